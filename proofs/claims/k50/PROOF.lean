import PyProof.Rows.All
import Wide.All
import OpenK.AllK
import Wide.FinOn
import KE.RegKSuper
import HandS.ForMost
import HandS.DictComp
import KE.KDictKeyed
import HandS.Exc
import HandS.TryOnly
import HandS.ExcOwn
import HandS.WordsExc
import HandS.Wide
import HandS.Lambda
import HandS.EndTab
import HandS.IsInst
import HandS.TupAny
import HandS.TupLe
import HandS.Gcd
import HandS.Conv
import HandS.Text
import HandS.Flt
import HandS.NoneIn
import HandS.Zip
import HandS.RevRange
import HandS.Rev
import HandS.Iter
import HandS.List
import HandS.Star
import HandS.MakeKwOnly
import HandS.Zip0
import KE.KExcSuper
import PyProof.FString
import PyProof.FString4
import HandS.FStr
import HandS.ExcInit
import HandS.ExcIs
import KE.KExcIs
import PyProof.AssignAttr
import HandS.SortKw
import KE.DatumOrd
import KE.SortKeyHeap
import KE.KLam
import KE.GoesEnum
import HandS.Dict
import HandS.More
import HandS.WordsDict
import HandS.Property
import HandS.WideBits
import HandS.Codes
import HandS.HeadEnd
import HandS.MakeKw
import Flt.RightSqrt
import KE.RegKIsAll
import PySem.Challenge.RW_armwarrant_k50_words_of_a_text
set_option Elab.async false
set_option linter.all false
set_option maxRecDepth 100000
set_option exponentiation.threshold 5000
/-! Dicts whose keys are tuples of any nesting, as things that are told by what is true of them. -/
namespace Tr
open PySem PySem.Spec PyProof.Rows L2

mutual
/-- the value v is the key k -/
def NK (K : PySem.W.Frag) (H : Hp) : NestedKey → V → Prop
  | .none, v => v = .non
  | .num i, v => v = .int i ∨ ∃ b, v = .bl b ∧ i = if b = true then 1 else 0
  | .text x, v => v = .str x
  | .tup ks, v => ∃ a vs, v = .ref a ∧ SqT K H a vs ∧ NKs K H ks vs
def NKs (K : PySem.W.Frag) (H : Hp) : List NestedKey → List V → Prop
  | [], vs => vs = []
  | k :: ks, vs => ∃ v r, vs = v :: r ∧ NK K H k v ∧ NKs K H ks r
end
/-- tuples of F stand in H -/
def TupSub (K : PySem.W.Frag) (F H : Hp) : Prop := ∀ a vs, SqT K F a vs → SqT K H a vs
mutual
theorem NK.up {K : PySem.W.Frag} {F H : Hp} (h : TupSub K F H) : ∀ {k : NestedKey} {v : V}, NK K F k v → NK K H k v
  | .none, _, q => q
  | .num _, _, q => q
  | .text _, _, q => q
  | .tup ks, _, ⟨a, vs, e, s, q⟩ => ⟨a, vs, e, h a vs s, NKs.up h q⟩
theorem NKs.up {K : PySem.W.Frag} {F H : Hp} (h : TupSub K F H) : ∀ {ks : List NestedKey} {vs : List V}, NKs K F ks vs → NKs K H ks vs
  | [], _, q => q
  | _ :: _, _, ⟨v, r, e, a, b⟩ => ⟨v, r, e, NK.up h a, NKs.up h b⟩
end
theorem TupSub.same {K : PySem.W.Frag} {F H : Hp} (h : Same F H) : TupSub K F H := fun a vs s => by
  rcases s with (s | ⟨o, s⟩) | s
  · exact .inl (.inl (h _ _ s))
  · exact .inl (.inr ⟨o, h _ _ s⟩)
  · exact .inr s

section
variable {X : Cx} {pins : List (Addr × Obj)} {σ : L2.St} {H : Hp} {s : Shared}
mutual
theorem nested_is (I : Inv X pins σ H s) : ∀ (k : NestedKey) (v : V) (u : Value), NK X.K H k v → RelV v u → NestedIs s.heap k u
  | .none, v, u, h, r => by
    obtain rfl : v = .non := h
    obtain rfl : u = .none := r
    exact .none
  | .num i, v, u, h, r => by
    rcases (show v = .int i ∨ ∃ b, v = .bl b ∧ i = if b = true then 1 else 0 from h) with rfl | ⟨b, rfl, e⟩
    · obtain ⟨t, rfl⟩ := r
      exact .int i t
    · obtain rfl : u = .bool b := r
      exact .bool e
  | .text x, v, u, h, r => by
    obtain rfl : v = .str x := h
    obtain ⟨t, rfl⟩ := r
    exact .text x t
  | .tup ks, v, u, h, r => by
    obtain ⟨a, vs, rfl, s1, h⟩ := h
    obtain rfl : u = .ref a := r
    obtain ⟨its, rv, ⟨o, ho, hc, n, hd⟩, _⟩ := I.tuple s1
    exact .tup ho hc hd (by
      have := nested_all I ks vs its h rv
      simpa using this)
theorem nested_all (I : Inv X pins σ H s) : ∀ (ks : List NestedKey) (vs : List V) (us : List Value), NKs X.K H ks vs → Vals vs us → NestedAll s.heap ks us
  | [], vs, us, h, r => by
    obtain rfl : vs = [] := h
    cases r
    exact .nil
  | k :: ks, vs, us, h, r => by
    obtain ⟨v, t, rfl, h1, h2⟩ := h
    cases r with
    | cons ru rr => exact .cons (nested_is I k v _ h1 ru) (nested_all I ks t _ h2 rr)
end
end

/-- the dict at a, by its entries: keys, the tuples that stand for them, values -/
abbrev Ents := List (NestedKey × Addr × Value)
def DxR (P : Program) (w : World) (h : Heap) (a : Addr) (xs : Ents) : Prop :=
  (a == sysModules) = false ∧ ∃ o es ep, h.get? a = some o ∧ o.ExactDict ∧ o.data = .dict es ep ∧ es.toList = xs.map (entryOfKey (nestedKind P w)) ∧ (xs.map (·.1)).Nodup
def DxO (P : Program) (w : World) (a : Addr) (xs : Ents) : HO := .ext fun h => DxR P w h a xs
theorem dx_at {P : Program} {w : World} {a : Addr} {xs : Ents} {h h' : Heap} (q : DxR P w h a xs) (k : ∀ o, h.get? a = some o → h'.get? a = some o) : DxR P w h' a xs := by
  obtain ⟨q1, o, es, ep, q2, q3⟩ := q
  exact ⟨q1, o, es, ep, k o q2, q3⟩
theorem dx_ok {P : Program} {w : World} {H : Hp} {h : Heap} {a : Addr} {xs : Ents} (q : DxR P w h a xs) : ObjOk P w H h a (DxO P w a xs) :=
  ⟨q, (by obtain ⟨_, o, _, _, q2, _⟩ := q; exact ⟨o, q2⟩), fun _ _ z k => dx_at z k⟩
/-- the keys stand -/
def KeysAt (K : PySem.W.Frag) (H : Hp) (xs : Ents) : Prop := ∀ z ∈ xs, NK K H z.1 (.ref z.2.1) ∧ z.1.depth ≤ 8
theorem KeysAt.up {K : PySem.W.Frag} {F H : Hp} {xs : Ents} (h : TupSub K F H) (q : KeysAt K F xs) : KeysAt K H xs := fun z hz => ⟨(q z hz).1.up h, (q z hz).2⟩
theorem isSome_any (xs : Ents) (k : NestedKey) : (valueAt (pairsH xs) k).isSome = xs.any fun z => decide (z.1 = k) := by
  induction xs with
  | nil => rfl
  | cons z r ih =>
    by_cases e : z.1 = k
    · simp [pairsH, valueAt, e]
    · simpa [pairsH, valueAt, e] using ih
section
variable {X : Cx} {pins : List (Addr × Obj)} {σ : L2.St} {H : Hp} {s : Shared} {D a : Addr} {xs : Ents} {k : NestedKey}
theorem dx_rd (I : Inv X pins σ H s) (e : H D = some (DxO X.prog X.w D xs)) : DxR X.prog X.w s.heap D xs := (I.hok D _ e).1
theorem dx_of (I : Inv X pins σ H s) (e : H D = some (DxO X.prog X.w D xs)) (hx : KeysAt X.K H xs) : s.heap.DictOfH (nestedKind X.prog X.w) D xs := by
  obtain ⟨_, o, es, ep, q2, q3, q4, q5, q6⟩ := dx_rd I e
  exact ⟨o, es, ep, q2, q3, q4, q5, fun z hz => ⟨nested_is I z.1 _ _ (hx z hz).1 rfl, (hx z hz).2⟩, q6⟩
/-- k in d, k not in d -/
def rInDx (X : Cx) (neg : Bool) : R2 := fun x y H Q => ∃ a D xs k, x = .ref a ∧ y = .ref D ∧ H D = some (DxO X.prog X.w D xs) ∧ KeysAt X.K H xs ∧ NK X.K H k (.ref a) ∧ k.depth ≤ 8 ∧ Q (.bl (xor neg (xs.any fun z => decide (z.1 = k)))) H
theorem dx_room (hu : X.A.units + 64 < cLine) : (nestedKind X.prog X.w).room X.A.in1 := by
  show X.A.units + 1 + 8 < cLine
  omega
theorem op_inDx (hu : X.A.units + 64 < cLine) : OpR X (compareOp .In) (rInDx X false) := by
  intro pins s σ H x y v u Q I rx ry h
  obtain ⟨a, D, xs, k, rfl, rfl, e, hx, hk, dk, q⟩ := h
  obtain rfl : v = Value.ref a := rx
  obtain rfl : u = Value.ref D := ry
  rw [Bool.false_xor] at q
  refine in_keyed (knd := nestedKind X.prog X.w) (dx_room hu) ⟨nested_is I k _ _ hk rfl, dk⟩ (dx_rd I e).1 ⟨xs, dx_of I e hx, rfl⟩ ?_
  rw [isSome_any]
  exact ⟨.bl _, H, I.tok _, rfl, q⟩
theorem op_notInDx (hu : X.A.units + 64 < cLine) : OpR X (compareOp .NotIn) (rInDx X true) := by
  intro pins s σ H x y v u Q I rx ry h
  obtain ⟨a, D, xs, k, rfl, rfl, e, hx, hk, dk, q⟩ := h
  obtain rfl : v = Value.ref a := rx
  obtain rfl : u = Value.ref D := ry
  rw [Bool.true_xor] at q
  refine notIn_keyed (knd := nestedKind X.prog X.w) (dx_room hu) ⟨nested_is I k _ _ hk rfl, dk⟩ (dx_rd I e).1 ⟨xs, dx_of I e hx, rfl⟩ ?_
  rw [isSome_any]
  exact ⟨.bl _, H, I.tok _, rfl, q⟩
/-- a store by a comprehension -/
theorem dx_set {E : Value → Shared → Prop} {r : Value} {Q : Unit → Shared → Prop} (hu : X.A.units + 64 < cLine) (I : Inv X pins σ H s) (e : H D = some (DxO X.prog X.w D xs)) (hx : KeysAt X.K H xs) (hk : NK X.K H k (.ref a)) (dk : k.depth ≤ 8) (hz : xs.length ≤ 1000)
    (h : ∀ s', Inv X pins σ (upd H D (DxO X.prog X.w D (storedH xs k a r))) s' → Q () s') : wpAny (model X.prog X.w) X.A (dictSet D (.ref a) r) Q E s := by
  have hs0 := (dx_rd I e).1
  refine wpAny_dictSet_heap (knd := nestedKind X.prog X.w) (by show X.A.units + 8 < cLine; omega) ⟨nested_is I k _ _ hk rfl, dk⟩ (dx_of I e hx) (fun h' dd hs => h _ ?_) (Nat.le_trans hz (by decide))
  obtain ⟨o, es, ep, q2, q3, q4, q5, _, q6⟩ := dd
  exact d_write I (by rw [e]; exact True.intro) hs ⟨o, q2⟩ (dx_ok ⟨hs0, o, es, ep, q2, q3, q4, q5, q6⟩)
theorem dx_empty {P : Program} {w : World} {H : Hp} (h : Heap) (hb : sysModules < h.objs.size) : ObjOk P w H (h.push { cls := .type "dict", data := .dict #[] }) h.objs.size (DxO P w h.objs.size []) :=
  dx_ok ⟨beq_eq_false_iff_ne.mpr (Ne.symm (Nat.ne_of_lt hb)), _, #[], 0, Heap.get?_push_size _ rfl, ⟨rfl, rfl, rfl⟩, rfl, rfl, List.nodup_nil⟩
end

/-! ### {k: v for target in iter}, the keys tuples -/
section
variable {X : Cx}
def tDn (X : Cx) (wi : TI) (g : TG) (tk tv : TE) (vs : List Nat) : TE := fun σ H Q => wi σ H fun J H1 => ∀ D, H1 D = none → ∃ W : Nat → Nat → Hp → Prop, (∃ m, W 0 m (upd H1 D (DxO X.prog X.w D []))) ∧ ∀ i m H, W i m H →
  (J.stop i H ∧ Q (.ref D) H) ∨ (J.go i H ∧ ∃ Nx : Hp → Prop, (∀ H', Nx H' → ∃ m', m' < m ∧ W (i + 1) m' H') ∧ ∀ x H', J.yld i H x H' → g x (wipe σ vs) H' fun σ2 H2 => wipe σ2 vs = wipe σ vs ∧
    tk σ2 H2 fun y H4 => tv σ2 H4 fun z H5 => ∃ xs a k, y = .ref a ∧ H5 D = some (DxO X.prog X.w D xs) ∧ xs.length ≤ 1000 ∧ KeysAt X.K H5 xs ∧ NK X.K H5 k (.ref a) ∧ k.depth ≤ 8 ∧ ∀ u, RelV z u → Nx (upd H5 D (DxO X.prog X.w D (storedH xs k a u))))
theorem dn_core {pins : List (Addr × Obj)} {s : Shared} {σ : L2.St} {H : Hp} {Q : VK} {kx vx tg iter : Expr} {scope : Scope} {own : List (Str × Nat)} {pos pos' : Pos} {wi : TI} {g : TG} {tk tv : TE} {use : Option (Value → Sem Unit)} {Qf : Value → Shared → Prop} (hu : X.A.units + 64 < cLine)
    (hc : X.calm = true) (hN : X.N.Nodup) (I : Inv X pins σ H s) (hi : PI X tg iter wi) (ok : BlkOk X.N X.env.scope scope own)
    (hg : ∀ (s : Shared) (H : Hp) (Cc : Addr) (cl : List (Str × Addr)) (fp : List Addr), PG (X.blk s H scope (compEnvC scope cl Cc X.env) fp) tg g)
    (hk : ∀ (s : Shared) (H : Hp) (Cc : Addr) (cl : List (Str × Addr)) (fp : List Addr), PE (X.blk s H scope (compEnvC scope cl Cc X.env) fp) kx tk)
    (he : ∀ (s : Shared) (H : Hp) (Cc : Addr) (cl : List (Str × Addr)) (fp : List Addr), PE (X.blk s H scope (compEnvC scope cl Cc X.env) fp) vx tv) (hs : ∀ x, foldedSetIterable iter X.env x = pure x)
    (h : tDn X wi g tk tv (own.map (·.2)) σ H Q)
    (hR : ∀ D Cc s' m H', Inv X pins σ H' s' → Q (.ref D) H' → s'.heap.Ns Cc m → FpOk X pins H' Cc → compPost (model X.prog X.w) X.A X.xe use Qf (.ref D) Cc (.ok .next) s') :
    wpAny (model X.prog X.w) X.A (comprehension (.DictComp kx vx [⟨tg, iter, [], 0⟩] scope pos) scope X.env pos' newDict false (eval iter X.env) use) Qf X.xe s := by
  have fr : ∀ n ∈ scope.names, n.2 = .free → ∃ c, X.env.cells.lookup n.1 = some c := fun n hn e => (ok.free n hn e).elim (fun z => I.ok.has _ (.inl z)) fun z => I.ok.has _ (.inr z)
  refine wpAny_comprehension_free (use := use) rfl hs (closure_ok fr) ok.kind (fun n hn e => by rw [ok.uniq n hn, e]) (thn (hi.run pins s σ H _ I h) fun _ _ hx => thn hx fun _ t2 h2 => ?_)
  obtain ⟨it, fp, tn, J, G2, e, J2, T, u2, v2, q⟩ := h2
  subst e
  refine wpAny_newObj_type (newEnv_comp ?_)
  generalize hD : t2.heap.objs.size = D
  obtain ⟨W, ⟨m0, w0⟩, turn⟩ := q D (J2.hok.fresh (Nat.le_of_eq hD))
  generalize ht3 : ({ t2 with heap := t2.heap.push { cls := .type "dict", data := .dict #[] } } : Shared) = t3
  have h3 : t3.heap = t2.heap.push { cls := .type "dict", data := .dict #[] } := by rw [← ht3]
  have J3 : Inv X pins σ (upd G2 D (DxO X.prog X.w D [])) t3 := by
    rw [← ht3]
    refine J2.laid (t' := t2.toks) (fun b o e => Heap.get?_push_of_some _ e) (Nat.le_of_eq hD) ?_
    rw [← hD]
    exact dx_empty t2.heap J2.big
  have low : ∀ b ∈ fp, b < t2.heap.objs.size := fun b hb => let ⟨_, e, _⟩ := T.obj _ _ u2 b hb; Heap.lt_size e
  have v3 : ∀ b ∈ fp, FpOk X pins (upd G2 D (DxO X.prog X.w D [])) b ∧ b < t3.heap.objs.size := fun b hb => by
    have lt := low b hb
    refine ⟨⟨?_, (v2 b hb).2⟩, by rw [h3, Heap.size_push]; exact Nat.lt_succ_of_lt lt⟩
    rw [upd_ne (Nat.ne_of_lt (hD ▸ lt))]
    exact (v2 b hb).1
  have u3 : tn 0 t3.heap := T.keep _ _ _ u2 fun b _ o e => by rw [h3]; exact Heap.get?_push_of_some _ e
  have J4 := block_start J3 ok hN v3
  obtain ⟨G3, hG3⟩ : ∃ G3, upd G2 D (DxO X.prog X.w D []) = G3 := ⟨_, rfl⟩
  rw [hG3] at J3 J4 w0 v3
  have pg := hg t3 G3 t3.heap.objs.size (cellsFrom (t3.heap.objs.size + 1) scope.names (cloFrom X.env.cells scope.names [])) fp
  have pk := hk t3 G3 t3.heap.objs.size (cellsFrom (t3.heap.objs.size + 1) scope.names (cloFrom X.env.cells scope.names [])) fp
  have pe := he t3 G3 t3.heap.objs.size (cellsFrom (t3.heap.objs.size + 1) scope.names (cloFrom X.env.cells scope.names [])) fp
  obtain ⟨ce, hce⟩ : ∃ ce, compEnvC scope (cellsFrom (t3.heap.objs.size + 1) scope.names (cloFrom X.env.cells scope.names [])) t3.heap.objs.size X.env = ce := ⟨_, rfl⟩
  rw [hce] at J4 pg pk pe
  have cL : ce.locals = t3.heap.objs.size := by rw [← hce]; rfl
  show codeAny _ _ (.compStart (.DictComp kx vx [⟨tg, iter, [], 0⟩] scope pos) 0 (.ref it) (.ref D) (compEnvC scope (cellsFrom (t3.heap.objs.size + 1) scope.names (cloFrom X.env.cells scope.names [])) t3.heap.objs.size X.env)) (compPost (model X.prog X.w) X.A X.xe use Qf (.ref D) t3.heap.objs.size) { t3 with heap := pushCells (t3.heap.push { cls := .type "dict", data := .dict #[] }) scope.names }
  rw [hce]
  obtain ⟨t4, ht4⟩ : ∃ t4 : Shared, { t3 with heap := pushCells (t3.heap.push { cls := .type "dict", data := .dict #[] }) scope.names } = t4 := ⟨_, rfl⟩
  rw [ht4] at J4 ⊢
  have u4 : tn 0 t4.heap := T.keep _ _ _ u3 fun b _ o e => by rw [← ht4]; exact pushCells_keeps _ _ _ _ (Heap.get?_push_of_some _ e)
  -- the walk's own objects stay apart
  have apart : ∀ {σ' : L2.St} {G' : Hp} {t' : Shared}, Inv (X.blk t3 G3 scope ce fp) [] σ' G' t' → (∀ b ∈ fp, G' b = none) → ∀ b ∈ fp, FpOk (X.blk t3 G3 scope ce fp) [] G' b := fun {σ' G' t'} J' nn b hb =>
    ⟨nn b hb, (J'.ok.exf b hb).1, J'.ok.exfs b hb, .inl hb, fun x c e => (J'.ok.exf b hb).2 x c e, fun p hp => by simp at hp⟩
  have body : codeAny (model X.prog X.w) X.A (.compLoop (.DictComp kx vx [⟨tg, iter, [], 0⟩] scope pos) 0 (.ref it) (.ref D) ce) (compPost (model X.prog X.w) X.A X.xe use Qf (.ref D) t3.heap.objs.size) t4 := by
    refine compLoop_anyD (fun n t' => ∃ i G', Inv (X.blk t3 G3 scope ce fp) [] (wipe σ (own.map (·.2))) G' t' ∧ tn i t'.heap ∧ (∀ b ∈ fp, G' b = none) ∧ W i n G') ?_ m0 ⟨0, G3, J4, u4, fun b hb => (v3 b hb).1.1, w0⟩
    rintro n t5 ⟨i, G5, J5, u5, n5, w5⟩
    rcases turn i n G5 w5 with ⟨stop, qq⟩ | ⟨go, Nx, hNx, step⟩
    · refine thnF (T.done (X.blk t3 G3 scope ce fp) rfl rfl rfl hc i [] t5 _ G5 (fun _ _ => False) J5 (apart J5 n5) u5 stop) fun r t6 ⟨hr, J6⟩ => ?_
      subst hr
      have J7 : Inv X pins σ G5 t6 := J3.call' (ch := fp) J6.os J6.base J6.hok J6.bare fun b hb => let z := (v3 b hb).1; ⟨z.2.2.2.1, z.2.1, z.2.2.2.2.1, z.2.2.2.2.2⟩
      have nC : G5 t3.heap.objs.size = none := cL ▸ (show G5 ce.locals = none from J6.free)
      obtain ⟨m, hn, _⟩ := J6.loc
      exact hR D t3.heap.objs.size t6 m G5 J7 qq (cL ▸ (show t6.heap.Ns ce.locals m from hn)) (J3.fpOk (Nat.le_refl _) nC)
    · refine thnF (T.item (X.blk t3 G3 scope ce fp) rfl rfl rfl hc i [] t5 _ G5 (fun _ _ => False) J5 (apart J5 n5) u5 go) fun r t6 ⟨u, hr, h6⟩ => ?_
      subst hr
      refine thnF h6 fun _ t7 ⟨x, G7, J7, r7, y7, u7, n7⟩ => ?_
      refine thnF (pg.run _ t7 _ G7 x u _ (J7.pinned (apart J7 n7) (T.obj _ _ u7)) r7 (step x G7 y7)) fun _ t8 ⟨σ8, G8, J8, hw8, q8⟩ => ?_
      refine wpAny_pure ?_
      rw [if_pos rfl]
      refine thnF (pk.run _ t8 σ8 G8 _ J8 q8) fun z t10 ⟨yk, G10, J10, r10, q10⟩ => ?_
      refine thnF (pe.run _ t10 σ8 G10 _ J10 q10) fun z2 t11 ⟨yv, G11, J11, r11, xs, a, k, ek, hD11, hz11, hx11, hk11, dk11, nx⟩ => ?_
      subst ek
      obtain rfl : z = Value.ref a := r10
      refine dx_set (X := X.blk t3 G3 scope ce fp) hu J11 hD11 hx11 hk11 dk11 hz11 fun t12 J12 => ?_
      obtain ⟨m', hm, w'⟩ := hNx _ (nx z2 r11)
      have stay : ∀ b ∈ fp, ∀ o, t7.heap.get? b = some o → t12.heap.get? b = some o ∧ (upd G11 D (DxO X.prog X.w D (storedH xs k a z2))) b = none := fun b hb o e =>
        let y := J12.pin (b, o) (List.mem_append_right _ (List.mem_append_right _ (mem_pinsAt hb e)))
        ⟨y.1, y.2.1⟩
      refine ⟨m', hm, i + 1, _, (J12.unpinned (pins := [])).weak (by rw [← hw8, wipe_length]) (fun j v e => ?_), T.keep _ _ _ u7 fun b hb o e => (stay b hb o e).1, fun b hb => ?_, w'⟩
      · rw [← hw8] at e
        exact (wipe_some e).1
      · obtain ⟨o, e, _⟩ := T.obj _ _ u7 b hb
        exact (stay b hb o e).2
  exact codeAny_compStart_dict body (T.self X.A 0 _ _ _ u4 body)
theorem pe_dn {kx vx tg iter : Expr} {scope : Scope} {own : List (Str × Nat)} {pos : Pos} {wi : TI} {g : TG} {tk tv : TE} (hu : X.A.units + 64 < cLine) (hc : X.calm = true) (hN : X.N.Nodup) (hi : PI X tg iter wi) (ok : BlkOk X.N X.env.scope scope own)
    (hg : ∀ (s : Shared) (H : Hp) (Cc : Addr) (cl : List (Str × Addr)) (fp : List Addr), PG (X.blk s H scope (compEnvC scope cl Cc X.env) fp) tg g)
    (hk : ∀ (s : Shared) (H : Hp) (Cc : Addr) (cl : List (Str × Addr)) (fp : List Addr), PE (X.blk s H scope (compEnvC scope cl Cc X.env) fp) kx tk)
    (he : ∀ (s : Shared) (H : Hp) (Cc : Addr) (cl : List (Str × Addr)) (fp : List Addr), PE (X.blk s H scope (compEnvC scope cl Cc X.env) fp) vx tv) (hs : ∀ x, foldedSetIterable iter X.env x = pure x) :
    PE X (.DictComp kx vx [⟨tg, iter, [], 0⟩] scope pos) (tDn X wi g tk tv (own.map (·.2))) := by
  refine ⟨fun pins s σ H Q I h => ?_⟩
  rw [arm_eval_DictComp]
  refine dn_core hu hc hN I hi ok hg hk he hs h fun D Cc s' m H' J q hn f => ⟨m, hn, fun h'' sb => ?_⟩
  exact ⟨.ref D, H', J.turned (t' := s'.toks) (fun b o hb e => (sb.2 b hb).trans e) f.1 f.2.1 f.2.2.2.1 f.2.2.2.2.1 f.2.2.2.2.2, rfl, q⟩
end
end Tr

/-! Values as trees; a weakest precondition over trees; its soundness over the layer's readings. -/
namespace Tr
open PySem PySem.Spec PyProof.Rows L2

/-- a value as a tree -/
inductive D where
  | non | bl (b : Bool) | int (i : Int) | str (x : Str) | ty (n : String)
  | tup (xs : List D) | lst (xs : List D) | ins (c : Nat) (ns : List Nat) (vs : List D)
  | cell (i : Nat)
  | dct (ks : List D)
mutual
/-- the key that it is -/
def nkey : D → Option NestedKey
  | .non => some .none
  | .bl b => some (.num (if b = true then 1 else 0))
  | .int i => some (.num i)
  | .str x => some (.text x)
  | .tup ds => (nkeys ds).map .tup
  | _ => none
def nkeys : List D → Option (List NestedKey)
  | [] => some []
  | d :: ds => (nkey d).bind fun k => (nkeys ds).map (k :: ·)
end

/-- where the classes stand, what the fields are called -/
structure Tab where
  cad : Nat → Addr
  nm : Nat → Str
  /-- what the memory i holds under a key -/
  mem : Nat → List Int → Option D
  /-- the tables of code objects: where, by which number, what they name -/
  tbs : List (Addr × Nat)
  tbq : Nat → Str
  pr : Program
  wd : World
/-- the mark of a memory: a dict that fills as one goes on -/
def mkr (i : Nat) : HO := .dK [(.inl i, .non)]
theorem mkr_inj {i j : Nat} (h : mkr i = mkr j) : i = j := by
  unfold mkr at h
  simp at h
  omega

section
variable (K : PySem.W.Frag) (T : Tab) (F : Hp)
mutual
def R : D → V → Prop
  | .non, v => v = .non
  | .bl b, v => v = .bl b
  | .int i, v => v = .int i
  | .str x, v => v = .str x
  | .ty n, v => v = .ty n
  | .tup ds, v => ∃ a vs, v = .ref a ∧ SqT K F a vs ∧ Rs ds vs
  | .lst ds, v => ∃ a vs, v = .ref a ∧ SqL K F a vs ∧ Rs ds vs
  | .ins c ns ds, v => ∃ a dx vs, v = .ref a ∧ F a = some (.ins (T.cad c) dx ((ns.map T.nm).zip vs)) ∧ ns.length = vs.length ∧ Rs ds vs
  | .cell i, v => ∃ a, v = .ref a ∧ F a = some (mkr i)
  | .dct ks, v => ∃ (a : Addr) (xs : Ents), v = .ref a ∧ F a = some (DxO T.pr T.wd a xs) ∧ xs.map (fun x => some x.1) = ks.map nkey ∧ (∀ z ∈ xs, z.1.depth ≤ 8) ∧ Rs ks (xs.map fun x => .ref x.2.1)
def Rs : List D → List V → Prop
  | [], vs => vs = []
  | d :: ds, vs => ∃ v r, vs = v :: r ∧ R d v ∧ Rs ds r
end
end

variable {K : PySem.W.Frag} {T : Tab} {F F' : Hp}
mutual
theorem R.mono (h : Same F F') : ∀ {d : D} {v : V}, R K T F d v → R K T F' d v
  | .non, _, q => q
  | .bl _, _, q => q
  | .int _, _, q => q
  | .str _, _, q => q
  | .ty _, _, q => q
  | .tup ds, _, q => by
    obtain ⟨a, vs, e, s, r⟩ := q
    refine ⟨a, vs, e, ?_, Rs.mono h r⟩
    rcases s with (s | ⟨o, s⟩) | s
    · exact .inl (.inl (h _ _ s))
    · exact .inl (.inr ⟨o, h _ _ s⟩)
    · exact .inr s
  | .lst ds, _, q => by
    obtain ⟨a, vs, e, s, r⟩ := q
    exact ⟨a, vs, e, h.seq s, Rs.mono h r⟩
  | .ins c ns ds, _, q => by
    obtain ⟨a, dx, vs, e, s, l, r⟩ := q
    exact ⟨a, dx, vs, e, h _ _ s, l, Rs.mono h r⟩
  | .cell i, _, q => by
    obtain ⟨a, e, s⟩ := q
    exact ⟨a, e, h _ _ s⟩
  | .dct ks, _, q => by
    obtain ⟨a, xs, e, s, m, d, r⟩ := q
    exact ⟨a, xs, e, h _ _ s, m, d, Rs.mono h r⟩
theorem Rs.mono (h : Same F F') : ∀ {ds : List D} {vs : List V}, Rs K T F ds vs → Rs K T F' ds vs
  | [], _, q => q
  | d :: ds, _, q => by
    obtain ⟨v, r, e, a, b⟩ := q
    exact ⟨v, r, e, R.mono h a, Rs.mono h b⟩
end
mutual
theorem nk_of : ∀ {d : D} {v : V} {k : NestedKey}, R K T F d v → nkey d = some k → NK K F k v
  | .non, _, _, r, e => by cases e; exact r
  | .bl b, _, _, r, e => by cases e; exact .inr ⟨b, r, rfl⟩
  | .int i, _, _, r, e => by cases e; exact .inl r
  | .str x, _, _, r, e => by cases e; exact r
  | .tup ds, _, k, r, e => by
    obtain ⟨a, vs, e1, s, q⟩ := r
    have e : (nkeys ds).map NestedKey.tup = some k := e
    cases z : nkeys ds with
    | none => rw [z] at e; cases e
    | some ks =>
      rw [z] at e
      cases e
      exact ⟨a, vs, e1, s, nks_of q z⟩
  | .ty _, _, _, _, e => by cases e
  | .lst _, _, _, _, e => by cases e
  | .ins _ _ _, _, _, _, e => by cases e
  | .cell _, _, _, _, e => by cases e
  | .dct _, _, _, _, e => by cases e
theorem nks_of : ∀ {ds : List D} {vs : List V} {ks : List NestedKey}, Rs K T F ds vs → nkeys ds = some ks → NKs K F ks vs
  | [], _, _, r, e => by cases e; exact r
  | d :: ds, _, ks, r, e => by
    obtain ⟨v, t, e1, a, b⟩ := r
    have e : (nkey d).bind (fun k => (nkeys ds).map (k :: ·)) = some ks := e
    cases z : nkey d with
    | none => rw [z] at e; cases e
    | some k =>
      rw [z] at e
      cases y : nkeys ds with
      | none => rw [y] at e; cases e
      | some ks' =>
        rw [y] at e
        cases e
        exact ⟨v, t, e1, nk_of a z, nks_of b y⟩
end
theorem Rs.length : ∀ {ds : List D} {vs : List V}, Rs K T F ds vs → ds.length = vs.length
  | [], _, q => by cases q; rfl
  | _ :: ds, _, ⟨v, r, e, _, b⟩ => by subst e; exact congrArg (· + 1) (Rs.length b)
theorem Rs.get : ∀ {ds : List D} {vs : List V} {i : Nat} {d : D}, Rs K T F ds vs → ds[i]? = some d → ∃ v, vs[i]? = some v ∧ R K T F d v
  | [], _, _, _, _, e => by simp at e
  | d :: ds, _, 0, d', ⟨v, r, e, a, b⟩, h => by
    subst e
    have : d = d' := by simpa using h
    subst this
    exact ⟨v, rfl, a⟩
  | d :: ds, _, i + 1, d', ⟨v, r, e, a, b⟩, h => by
    subst e
    obtain ⟨w, h1, h2⟩ := Rs.get (i := i) b (by simpa using h)
    exact ⟨w, by simpa using h1, h2⟩
theorem Rs.get' : ∀ {ds : List D} {vs : List V} {i : Nat} {v : V}, Rs K T F ds vs → vs[i]? = some v → ∃ d, ds[i]? = some d ∧ R K T F d v
  | [], _, _, _, q, e => by cases q; simp at e
  | d :: ds, _, 0, v', ⟨v, r, e, a, b⟩, h => by
    subst e
    have : v = v' := by simpa using h
    subst this
    exact ⟨d, rfl, a⟩
  | d :: ds, _, i + 1, v', ⟨v, r, e, a, b⟩, h => by
    subst e
    obtain ⟨w, h1, h2⟩ := Rs.get' (i := i) b (by simpa using h)
    exact ⟨w, by simpa using h1, h2⟩
theorem Rs.append : ∀ {ds es : List D} {vs ws : List V}, Rs K T F ds vs → Rs K T F es ws → Rs K T F (ds ++ es) (vs ++ ws)
  | [], _, _, _, q, h => by cases q; exact h
  | d :: ds, _, _, _, ⟨v, r, e, a, b⟩, h => by subst e; exact ⟨v, r ++ _, rfl, a, Rs.append b h⟩
theorem Rs.one {d : D} {v : V} (h : R K T F d v) : Rs K T F [d] [v] := ⟨v, [], rfl, h, rfl⟩
theorem Rs.set : ∀ {ds : List D} {vs : List V} {d : D} {v : V} (i : Nat), Rs K T F ds vs → R K T F d v → Rs K T F (ds.set i d) (vs.set i v)
  | [], _, _, _, _, q, _ => by cases q; exact rfl
  | d :: ds, _, _, _, 0, ⟨v, r, e, a, b⟩, h => by subst e; exact ⟨_, r, rfl, h, b⟩
  | d :: ds, _, _, _, i + 1, ⟨v, r, e, a, b⟩, h => by subst e; exact ⟨v, _, rfl, a, Rs.set i b h⟩
theorem Rs.take : ∀ {ds : List D} {vs : List V} (n : Nat), Rs K T F ds vs → Rs K T F (ds.take n) (vs.take n)
  | [], _, n, q => by cases q; rw [List.take_nil, List.take_nil]; exact rfl
  | d :: ds, _, 0, _ => rfl
  | d :: ds, _, n + 1, ⟨v, r, e, a, b⟩ => by subst e; exact ⟨v, _, rfl, a, Rs.take n b⟩
theorem Rs.drop : ∀ {ds : List D} {vs : List V} (n : Nat), Rs K T F ds vs → Rs K T F (ds.drop n) (vs.drop n)
  | [], _, n, q => by cases q; rw [List.drop_nil, List.drop_nil]; exact rfl
  | d :: ds, _, 0, q => q
  | d :: ds, _, n + 1, ⟨v, r, e, a, b⟩ => by subst e; exact Rs.drop n b
theorem Rs.reverse : ∀ {ds : List D} {vs : List V}, Rs K T F ds vs → Rs K T F ds.reverse vs.reverse
  | [], _, q => by cases q; exact rfl
  | d :: ds, _, ⟨v, r, e, a, b⟩ => by
    subst e
    rw [List.reverse_cons, List.reverse_cons]
    exact Rs.append (Rs.reverse b) (Rs.one a)

/-- a mutable thing that one slot alone holds -/
inductive O where
  | lst (ds : List D)
  | ins (c : Nat) (ns : List Nat) (ds : List D)
  | dct (kvs : List (Key × D))
inductive Slot where
  | emp | val (d : D) | own (o : O)

/-- a dict's pairs and their trees -/
def KD (K : PySem.W.Frag) (T : Tab) (F : Hp) : List (Key × D) → List (Key × V) → Prop
  | [], [] => True
  | x :: r, y :: r' => x.1 = y.1 ∧ R K T F x.2 y.2 ∧ KD K T F r r'
  | _, _ => False
theorem KD.mono (h : Same F F') : ∀ {kvs : List (Key × D)} {vs : List (Key × V)}, KD K T F kvs vs → KD K T F' kvs vs
  | [], [], _ => trivial
  | _ :: _, _ :: _, q => ⟨q.1, q.2.1.mono h, KD.mono h q.2.2⟩
  | [], _ :: _, q => q.elim
  | _ :: _, [], q => q.elim
/-- the object lies so -/
def OAt (K : PySem.W.Frag) (T : Tab) (F : Hp) : O → HO → Prop
  | .lst ds, o => ∃ vs, o = .lst vs ∧ Rs K T F ds vs
  | .ins c ns ds, o => ∃ dx vs, o = .ins (T.cad c) dx ((ns.map T.nm).zip vs) ∧ ns.length = vs.length ∧ Rs K T F ds vs
  | .dct kvs, o => ∃ vs, o = .dK vs ∧ KD K T F kvs vs
theorem OAt.mono (h : Same F F') : ∀ {o : O} {u : HO}, OAt K T F o u → OAt K T F' o u
  | .lst _, _, ⟨vs, e, r⟩ => ⟨vs, e, Rs.mono h r⟩
  | .ins _ _ _, _, ⟨dx, vs, e, l, r⟩ => ⟨dx, vs, e, l, Rs.mono h r⟩
  | .dct _, _, ⟨vs, e, r⟩ => ⟨vs, e, KD.mono h r⟩
theorem OAt.mut {o : O} {u : HO} (h : OAt K T F o u) : Mut (some u) := by
  cases o with
  | lst ds => obtain ⟨vs, rfl, _⟩ := h; trivial
  | ins c ns ds => obtain ⟨dx, vs, rfl, _⟩ := h; trivial
  | dct kvs => obtain ⟨vs, rfl, _⟩ := h; trivial

def SlR (K : PySem.W.Frag) (T : Tab) (B F H : Hp) : Slot → Option V → Prop
  | .emp, _ => True
  | .val d, x => ∃ v, x = some v ∧ R K T F d v
  | .own o, x => ∃ a u, x = some (.ref a) ∧ H a = some u ∧ OAt K T F o u ∧ F a = none ∧ B a = none

/-- what a memory holds is what it must; the number 2: the digits that a law draws from -/
def MemoOk (K : PySem.W.Frag) (T : Tab) (F : Hp) (p : Addr) (i : Nat) : HO → Prop
  | .dK kvs => i % 4 = 0 ∧ ∀ k v, (k, v) ∈ kvs → ∃ z d, k = .inl z ∧ T.mem i [z] = some d ∧ R K T F d v
  | .dT kvs => i % 4 = 0 ∧ ∀ k v, (k, v) ∈ kvs → ∃ zs d, k = zs.map .inl ∧ T.mem i zs = some d ∧ R K T F d v
  | .tbl ps => i % 4 = 1 ∧ (p, i) ∈ T.tbs ∧ TriplesOk ps.toList ∧ ∀ (pos : Pos) (cv : Value), codeAmong pos ps.toList = some cv → ∃ c, cv = .ref c ∧ F c = some (LamX.CodeO c (T.tbq i))
  | .lst vs => i = 2 ∧ ∃ z : Int, vs = [.int z] ∧ 0 ≤ z
  | _ => False
theorem MemoOk.mono (h : Same F F') {p : Addr} {i : Nat} : ∀ {o : HO}, MemoOk K T F p i o → MemoOk K T F' p i o := fun {o} q => by
  cases o with
  | dK kvs => exact ⟨q.1, fun k v m => by obtain ⟨z, d, e1, e2, r⟩ := q.2 k v m; exact ⟨z, d, e1, e2, r.mono h⟩⟩
  | dT kvs => exact ⟨q.1, fun k v m => by obtain ⟨z, d, e1, e2, r⟩ := q.2 k v m; exact ⟨z, d, e1, e2, r.mono h⟩⟩
  | tbl ps => exact ⟨q.1, q.2.1, q.2.2.1, fun pos cv m => by obtain ⟨c, e1, e2⟩ := q.2.2.2 pos cv m; exact ⟨c, e1, h _ _ e2⟩⟩
  | lst vs => exact q
  | _ => exact q
/-- what is frozen stands, the memories aside -/
structure Sub (F H : Hp) : Prop where
  p : ∀ a o, F a = some o → (∀ i, o ≠ mkr i) → H a = some o
  d : ∀ a, H a = none → F a = none
theorem Sub.free {F H : Hp} (h : Sub F H) {a : Addr} (e : H a = none) : F a = none := h.d a e
theorem Sub.pre {G F H : Hp} (e : Same G F) (h : Sub F H) : Sub G H := ⟨fun a o z n => h.p a o (e a o z) n, fun a z => by
  cases q : G a with
  | none => rfl
  | some o =>
    have := e a o q
    rw [h.d a z] at this
    cases this⟩
theorem Sub.trans {F H H' : Hp} (h : Sub F H) (e : Same H H') : Sub F H' := ⟨fun a o z n => e a o (h.p a o z n), fun a z => h.d a (e.free z)⟩
theorem Sub.seq {F H : Hp} {a : Addr} {xs : List V} (h : Sub F H) (s : SqL K F a xs) : SqL K H a xs := by
  rcases s with (s | ⟨o, s⟩) | s
  · exact .inl (.inl (h.p _ _ s fun i z => nomatch z))
  · exact .inl (.inr ⟨o, h.p _ _ s fun i z => nomatch z⟩)
  · exact .inr s
theorem Sub.sqT {F H : Hp} {a : Addr} {xs : List V} (h : Sub F H) (s : SqT K F a xs) : SqT K H a xs := by
  rcases s with (s | ⟨o, s⟩) | s
  · exact .inl (.inl (h.p _ _ s fun i z => nomatch z))
  · exact .inl (.inr ⟨o, h.p _ _ s fun i z => nomatch z⟩)
  · exact .inr s
theorem Sub.ins {F H : Hp} {a C dx : Addr} {fs : List (Str × V)} (h : Sub F H) (s : F a = some (.ins C dx fs)) : H a = some (.ins C dx fs) := h.p _ _ s fun i z => nomatch z
/-- what stood at the entry stands, the memories aside -/
structure Keep (F0 B H : Hp) : Prop where
  p : ∀ a o, B a = some o → (∀ i, F0 a ≠ some (mkr i)) → H a = some o
  d : ∀ a, H a = none → B a = none
theorem Keep.free {F0 B H : Hp} (h : Keep F0 B H) {a : Addr} (e : H a = none) : B a = none := h.d a e
theorem Keep.refl {F0 B : Hp} : Keep F0 B B := ⟨fun _ _ e _ => e, fun _ e => e⟩
theorem Keep.up {F0 B H H' : Hp} (h : Keep F0 B H) (e : Same H H') : Keep F0 B H' := ⟨fun a o z n => e a o (h.p a o z n), fun a z => h.d a (e.free z)⟩
theorem Keep.of {F0 B H : Hp} (e : Same B H) : Keep F0 B H := ⟨fun a o z _ => e a o z, fun a z => e.free z⟩
theorem Keep.trans {F0 B F H H' : Hp} (h : Keep F0 B H) (k : Keep F H H') (new : ∀ a o, F a = some o → F0 a = some o ∨ B a = none) : Keep F0 B H' := ⟨fun a o z n => k.p a o (h.p a o z n) (fun i q => by
  rcases new a _ q with w | w
  · exact n i w
  · rw [z] at w; cases w), fun a z => h.d a (k.d a z)⟩
/-- the memories hold what they must -/
structure CelOk (K : PySem.W.Frag) (T : Tab) (F H : Hp) : Prop where
  m : ∀ a i, F a = some (mkr i) → ∃ u, H a = some u ∧ MemoOk K T F a i u
  tb : ∀ q ∈ T.tbs, F q.1 = some (mkr q.2)
theorem CelOk.up {H H' : Hp} (h : CelOk K T F H) (e : Same H H') : CelOk K T F H' := ⟨fun a i z => by
  obtain ⟨u, h1, h2⟩ := h.m a i z
  exact ⟨u, e _ _ h1, h2⟩, h.tb⟩
theorem CelOk.add {H : Hp} (h : CelOk K T F H) {p : Addr} {o : HO} (no : ∀ i, o ≠ mkr i) (e : Same F (upd F p o)) : CelOk K T (upd F p o) H := ⟨fun a i z => by
  by_cases q : a = p
  · subst q; rw [upd_same] at z; exact absurd (Option.some.inj z) (no i)
  · rw [upd_ne q] at z
    obtain ⟨u, h1, h2⟩ := h.m a i z
    exact ⟨u, h1, h2.mono e⟩, fun q hq => e _ _ (h.tb q hq)⟩
structure SubC (K : PySem.W.Frag) (T : Tab) (F H : Hp) : Prop where
  s : Sub F H
  c : CelOk K T F H
theorem Sub.add {F H : Hp} (h : Sub F H) {p : Addr} {o : HO} (e : H p = some o) : Sub (upd F p o) H := ⟨fun a u z n => by
  by_cases q : a = p
  · subst q; rw [upd_same] at z; cases z; exact e
  · rw [upd_ne q] at z; exact h.p a u z n, fun a z => by
  by_cases q : a = p
  · subst q; rw [e] at z; cases z
  · rw [upd_ne q]; exact h.d a z⟩
theorem Keep.pre {F0 B B1 H : Hp} (e : Same B B1) (h : Keep F0 B1 H) : Keep F0 B H := ⟨fun a o z n => h.p a o (e a o z) n, fun a z => e.free (h.d a z)⟩
/-- all but the slots: F0, B as at the entry -/
structure Gr (K : PySem.W.Frag) (T : Tab) (F0 B F H : Hp) : Prop where
  keep : Keep F0 B H
  sub : Sub F H
  new : ∀ a o, F a = some o → F0 a = some o ∨ B a = none
  old : Same F0 F
  cel : CelOk K T F H

structure Stt (K : PySem.W.Frag) (T : Tab) (sf : Addr) (F0 B F H : Hp) (σ : L2.St) (ρ : List Slot) : Prop where
  gr : Gr K T F0 B F H
  len : σ.length = ρ.length
  slot : ∀ (i : Nat) (s : Slot), ρ[i]? = some s → SlR K T B F H s ((σ[i]?).join)
  sep : ∀ (i j : Nat) (a : Addr) (o p : O), ρ[i]? = some (.own o) → ρ[j]? = some (.own p) → σ[i]? = some (some (.ref a)) → σ[j]? = some (some (.ref a)) → i = j
  /-- an instance that is being made stands at sf -/
  inst : ∀ (i k : Nat) (ns : List Nat) (ds : List D), ρ[i]? = some (.own (.ins k ns ds)) → σ[i]? = some (some (.ref sf))

/-- an exception: its class, its fields -/
structure Exc where
  c : Nat
  ns : List Nat
  vs : List D

def RX (K : PySem.W.Frag) (T : Tab) (F H : Hp) (x : Exc) (cls : Value) (dx : Option Addr) : Prop :=
  cls = .ref (T.cad x.c) ∧ ((dx = none ∧ x.ns = [] ∧ x.vs = []) ∨ ∃ d vs, dx = some d ∧ H d = some (.xd ((x.ns.map T.nm).zip vs)) ∧ x.ns.length = vs.length ∧ Rs K T F x.vs vs)

/-- what a tree expression is: from the slots, what is wanted of its value, what is wanted of an exception -/
abbrev WD := (D → Prop) → (Exc → Prop) → Prop
abbrev WE := List Slot → (D → Prop) → (Exc → Prop) → Prop
abbrev WT := List Slot → (Bool → Prop) → (Exc → Prop) → Prop
abbrev WA := List Slot → (List D → Prop) → (Exc → Prop) → Prop

/-- where one stands -/
structure Ct where
  K : PySem.W.Frag
  T : Tab
  F0 : Hp
  B : Hp
  W : WX
  sf : Addr := 0
abbrev Ct.S (c : Ct) (F H : Hp) (σ : L2.St) (ρ : List Slot) : Prop := Stt c.K c.T c.sf c.F0 c.B F H σ ρ
/-- what may follow a value -/
def Ct.qV (c : Ct) (F : Hp) (σ : L2.St) (ρ : List Slot) (P : D → Prop) (Q : VK) : Prop :=
  ∀ d v F' H', P d → c.S F' H' σ ρ → Same F F' → R c.K c.T F' d v → Q v H'
def Ct.qA (c : Ct) (F : Hp) (σ : L2.St) (ρ : List Slot) (P : List D → Prop) (Q : List V → Hp → Prop) : Prop :=
  ∀ ds vs F' H', P ds → c.S F' H' σ ρ → Same F F' → Rs c.K c.T F' ds vs → Q vs H'
def Ct.qB (c : Ct) (F : Hp) (σ : L2.St) (ρ : List Slot) (P : Bool → Prop) (Q : Bool → Hp → Prop) : Prop :=
  ∀ b F' H', P b → c.S F' H' σ ρ → Same F F' → Q b H'
def Ct.qX (c : Ct) (F : Hp) (σ : L2.St) (ρ : List Slot) (E : Exc → Prop) : Prop :=
  ∀ x cls dx F' H', E x → c.S F' H' σ ρ → Same F F' → RX c.K c.T F' H' x cls dx → c.W cls dx σ H'

def liftE (c : Ct) (w : WE) : TE := fun σ H Q => ∃ F ρ P E, c.S F H σ ρ ∧ w ρ P E ∧ c.qV F σ ρ P Q ∧ c.qX F σ ρ E
def liftT (c : Ct) (w : WT) : TT := fun σ H Q => ∃ F ρ P E, c.S F H σ ρ ∧ w ρ P E ∧ c.qB F σ ρ P Q ∧ c.qX F σ ρ E
def liftA (c : Ct) (w : WA) : TA := fun σ H Q => ∃ F ρ P E, c.S F H σ ρ ∧ w ρ P E ∧ c.qA F σ ρ P Q ∧ c.qX F σ ρ E

section
variable {c : Ct} {F F' H H' : Hp} {σ : L2.St} {ρ : List Slot}
theorem Ct.qX.up {E : Exc → Prop} (h : c.qX F σ ρ E) (e : Same F F') : c.qX F' σ ρ E := fun x cls dx F1 H1 a b d r => h x cls dx F1 H1 a b (e.trans d) r
theorem Ct.qV.up {P : D → Prop} {Q : VK} (h : c.qV F σ ρ P Q) (e : Same F F') : c.qV F' σ ρ P Q := fun d v F1 H1 a b q r => h d v F1 H1 a b (e.trans q) r
theorem Ct.qA.up {P : List D → Prop} {Q : List V → Hp → Prop} (h : c.qA F σ ρ P Q) (e : Same F F') : c.qA F' σ ρ P Q := fun d v F1 H1 a b q r => h d v F1 H1 a b (e.trans q) r
theorem Ct.qB.up {P : Bool → Prop} {Q : Bool → Hp → Prop} (h : c.qB F σ ρ P Q) (e : Same F F') : c.qB F' σ ρ P Q := fun d F1 H1 a b q => h d F1 H1 a b (e.trans q)

/-- a new frozen thing -/
theorem Stt.frozen (h : c.S F H σ ρ) {p : Addr} (np : H p = none) (o : HO) (no : ∀ i, o ≠ mkr i) : c.S (upd F p o) (upd H p o) σ ρ ∧ Same F (upd F p o) := by
  have nf : F p = none := h.gr.sub.free np
  have sF : Same F (upd F p o) := fun a u e => by rw [upd_ne (ne_of_none e nf)]; exact e
  have sH : Same H (upd H p o) := fun a u e => by rw [upd_ne (ne_of_none e np)]; exact e
  refine ⟨⟨⟨h.gr.keep.up sH, ⟨fun a u e n => ?_, fun a e => ?_⟩, fun a u e => ?_, h.gr.old.trans sF, ⟨fun a i e => ?_, fun q hq => sF _ _ (h.gr.cel.tb q hq)⟩⟩, h.len, fun i s e => ?_, h.sep, h.inst⟩, sF⟩
  · by_cases q : a = p
    · subst q; rw [upd_same] at e ⊢; exact e
    · rw [upd_ne q] at e ⊢; exact h.gr.sub.p a u e n
  · by_cases q : a = p
    · subst q; rw [upd_same] at e; cases e
    · rw [upd_ne q] at e ⊢; exact h.gr.sub.d a e
  · by_cases q : a = p
    · subst q
      exact .inr (h.gr.keep.free np)
    · rw [upd_ne q] at e; exact h.gr.new a u e
  · by_cases q : a = p
    · subst q; rw [upd_same] at e; exact absurd (Option.some.inj e) (no i)
    · rw [upd_ne q] at e ⊢
      obtain ⟨u, h1, h2⟩ := h.gr.cel.m a i e
      exact ⟨u, h1, h2.mono sF⟩
  · have z := h.slot i s e
    cases s with
    | emp => trivial
    | val d => obtain ⟨v, e1, r⟩ := z; exact ⟨v, e1, r.mono sF⟩
    | own ob =>
      obtain ⟨a, u, e1, e2, e3, e4, e5⟩ := z
      refine ⟨a, u, e1, sH a u e2, e3.mono sF, ?_, e5⟩
      rw [upd_ne (ne_of_none e2 np)]
      exact e4
end

section
variable {c : Ct} {F H : Hp} {σ : L2.St} {ρ : List Slot}
/-- a memory is written -/
theorem Stt.mem (S : c.S F H σ ρ) {p : Addr} {i : Nat} {u : HO} (e : F p = some (mkr i)) (hu : MemoOk c.K c.T F p i u) : c.S F (upd H p u) σ ρ := by
  have ne : ∀ {x : Addr} {o : HO}, F x = some o → (∀ i, o ≠ mkr i) → x ≠ p := fun {x o} q n z => by
    subst z; rw [e] at q; exact n i (Option.some.inj q).symm
  refine ⟨⟨⟨fun x o q n => ?_, fun x q => ?_⟩, ⟨fun x o q n => ?_, fun x q => ?_⟩, S.gr.new, S.gr.old, ⟨fun x j q => ?_, S.gr.cel.tb⟩⟩, S.len, fun j s q => ?_, S.sep, S.inst⟩
  · have : x ≠ p := fun z => by
      subst z
      rcases S.gr.new _ _ e with w | w
      · exact n i w
      · rw [q] at w; cases w
    rw [upd_ne this]
    exact S.gr.keep.p x o q n
  · by_cases z : x = p
    · subst z; rw [upd_same] at q; cases q
    · rw [upd_ne z] at q; exact S.gr.keep.d x q
  · rw [upd_ne (ne q n)]; exact S.gr.sub.p x o q n
  · by_cases z : x = p
    · subst z; rw [upd_same] at q; cases q
    · rw [upd_ne z] at q; exact S.gr.sub.d x q
  · by_cases z : x = p
    · subst z
      rw [e] at q
      have := mkr_inj (Option.some.inj q)
      subst this
      exact ⟨u, upd_same, hu⟩
    · rw [upd_ne z]; exact S.gr.cel.m x j q
  · have z := S.slot j s q
    cases s with
    | emp => trivial
    | val d => exact z
    | own o =>
      obtain ⟨a, w, h1, h2, h3, h4, h5⟩ := z
      have : a ≠ p := fun z => by subst z; rw [e] at h4; cases h4
      exact ⟨a, w, h1, by rw [upd_ne this]; exact h2, h3, h4, h5⟩
/-- a new memory -/
theorem Stt.cell (S : c.S F H σ ρ) {p : Addr} {i : Nat} {u : HO} (np : H p = none) (hu : MemoOk c.K c.T (upd F p (mkr i)) p i u) : c.S (upd F p (mkr i)) (upd H p u) σ ρ ∧ Same F (upd F p (mkr i)) := by
  have nf : F p = none := S.gr.sub.free np
  have sF : Same F (upd F p (mkr i)) := fun a u e => by rw [upd_ne (ne_of_none e nf)]; exact e
  have sH : Same H (upd H p u) := fun a u e => by rw [upd_ne (ne_of_none e np)]; exact e
  refine ⟨⟨⟨S.gr.keep.up sH, ⟨fun a u e n => ?_, fun a e => ?_⟩, fun a u e => ?_, S.gr.old.trans sF, ⟨fun a j e => ?_, fun q hq => sF _ _ (S.gr.cel.tb q hq)⟩⟩, S.len, fun j s e => ?_, S.sep, S.inst⟩, sF⟩
  · by_cases q : a = p
    · subst q; rw [upd_same] at e; exact absurd (Option.some.inj e).symm (n i)
    · rw [upd_ne q] at e ⊢; exact S.gr.sub.p a u e n
  · by_cases q : a = p
    · subst q; rw [upd_same] at e; cases e
    · rw [upd_ne q] at e ⊢; exact S.gr.sub.d a e
  · by_cases q : a = p
    · subst q
      exact .inr (S.gr.keep.free np)
    · rw [upd_ne q] at e; exact S.gr.new a u e
  · by_cases q : a = p
    · subst q
      rw [upd_same] at e
      have := mkr_inj (Option.some.inj e)
      subst this
      exact ⟨u, upd_same, hu⟩
    · rw [upd_ne q] at e ⊢
      obtain ⟨w, h1, h2⟩ := S.gr.cel.m a j e
      exact ⟨w, h1, h2.mono sF⟩
  · have z := S.slot j s e
    cases s with
    | emp => trivial
    | val d => obtain ⟨v, e1, r⟩ := z; exact ⟨v, e1, r.mono sF⟩
    | own ob =>
      obtain ⟨a, w, e1, e2, e3, e4, e5⟩ := z
      refine ⟨a, w, e1, sH a w e2, e3.mono sF, ?_, e5⟩
      rw [upd_ne (ne_of_none e2 np)]
      exact e4
/-- the digits -/
theorem CelOk.dig {K : PySem.W.Frag} {T : Tab} (h : CelOk K T F H) {a : Addr} (e : F a = some (mkr 2)) : ∃ z : Int, H a = some (.lst [.int z]) ∧ 0 ≤ z := by
  obtain ⟨u, h1, h2⟩ := h.m a 2 e
  cases u with
  | lst vs => obtain ⟨_, z, rfl, hz⟩ := h2; exact ⟨z, h1, hz⟩
  | dK kvs => exact absurd h2.1 (by decide)
  | dT kvs => exact absurd h2.1 (by decide)
  | tbl ps => exact absurd h2.1 (by decide)
  | _ => exact h2.elim
end

section
variable {X : Cx} {c : Ct} {a b e : Expr} {ta tb te : TE} {pos : Pos}
theorem pe_weak {t t' : TE} (h : PE X e t) (hw : ∀ σ H Q, t' σ H Q → t σ H Q) : PE X e t' := ⟨fun pins s σ H Q I q => h.run pins s σ H Q I (hw σ H Q q)⟩
theorem pt_weak {t t' : TT} (h : PT X e t) (hw : ∀ σ H Q, t' σ H Q → t σ H Q) : PT X e t' := ⟨fun pins s σ H Q I q => h.run pins s σ H Q I (hw σ H Q q)⟩
theorem pa_weak {es : List Expr} {t t' : TA} (h : PA X es t) (hw : ∀ σ H Q, t' σ H Q → t σ H Q) : PA X es t' := ⟨fun pos pins s σ H Q I q => h.run pos pins s σ H Q I (hw σ H Q q)⟩
theorem ps_weak {st : Stmt} {t t' : TS} (h : PS X st t) (hw : ∀ D σ H, t' D σ H → t D σ H) : PS X st t' := ⟨fun pins s σ H D I q => h.run pins s σ H D I (hw D σ H q)⟩
theorem pss_weak {st : List Stmt} {t t' : TS} (h : PSs X st t) (hw : ∀ D σ H, t' D σ H → t D σ H) : PSs X st t' := ⟨fun pins s σ H D I q => h.run pins s σ H D I (hw D σ H q)⟩

/-! ### leaves -/
def wVar (i : Nat) : WE := fun ρ P _ => match ρ[i]? with | some (.val d) => P d | _ => False
def wC (d : D) : WE := fun _ P _ => P d
theorem lv_var {i : Nat} {x : Str} (hN : X.N[i]? = some x) (hv : Vis X.env.scope x) (hd : (x == ("__debug__" : Str)) = false) (hcd : (x == ("__classdict__" : Str)) = false) : PE X (.Name x pos) (liftE c (wVar i)) := by
  refine pe_weak (pe_var hN hv hd hcd) fun σ H Q ⟨F, ρ, P, E, S, w, q, _⟩ => ?_
  unfold wVar at w
  split at w
  · rename_i d he
    obtain ⟨v, e1, r⟩ := S.slot i _ he
    refine ⟨v, ?_, q d v F H w S (Same.refl F) r⟩
    cases z : σ[i]? with
    | none => rw [z] at e1; cases e1
    | some o => rw [z] at e1; exact congrArg some e1
  · exact w.elim
theorem lv_int {i j} : PE X (.Constant (.int i) j pos) (liftE c (wC (.int i))) := pe_weak pe_int fun σ H Q ⟨F, ρ, P, E, S, w, q, _⟩ => q _ _ F H w S (Same.refl F) rfl
theorem lv_bl {b j} : PE X (.Constant (.bool b) j pos) (liftE c (wC (.bl b))) := pe_weak pe_bl fun σ H Q ⟨F, ρ, P, E, S, w, q, _⟩ => q _ _ F H w S (Same.refl F) rfl
theorem lv_non {j} : PE X (.Constant .none j pos) (liftE c (wC .non)) := pe_weak pe_non fun σ H Q ⟨F, ρ, P, E, S, w, q, _⟩ => q _ _ F H w S (Same.refl F) rfl
theorem lv_str {x j} : PE X (.Constant (.str x) j pos) (liftE c (wC (.str x))) := pe_weak pe_str fun σ H Q ⟨F, ρ, P, E, S, w, q, _⟩ => q _ _ F H w S (Same.refl F) rfl
/-- a module's constant that is no object -/
def flatD : D → V → Bool
  | .non, .non => true | .bl a, .bl b => a == b | .int a, .int b => a == b | .str a, .str b => a == b | .ty a, .ty b => a == b
  | _, _ => false
theorem lv_glob {x : Str} {d : D} {v : V} {u : Value} (hg : Gl X x) (hm : X.mg x = some u) (r : RelV v u) (hR : R c.K c.T (fun _ => none) d v) (hd : (x == ("__debug__" : Str)) = false) : PE X (.Name x pos) (liftE c (wC d)) :=
  pe_weak (pe_glob hg hm r hd) fun σ H Q ⟨F, ρ, P, E, S, w, q, _⟩ => q _ _ F H w S (Same.refl F) (hR.mono fun _ _ z => by cases z)

/-! ### operators -/
/-- what a tree operator owes to a reading -/
def Op2 (c : Ct) (r : R2) (f : D → D → WD) : Prop :=
  ∀ (F H : Hp) (σ : L2.St) (ρ : List Slot) (x y : V) (dx dy : D) (P : D → Prop) (E : Exc → Prop) (Q : VK), c.S F H σ ρ → R c.K c.T F dx x → R c.K c.T F dy y → f dx dy P E → c.qV F σ ρ P Q → r x y H Q
def Op1 (c : Ct) (r : V → Hp → VK → Prop) (f : D → WD) : Prop :=
  ∀ (F H : Hp) (σ : L2.St) (ρ : List Slot) (x : V) (dx : D) (P : D → Prop) (E : Exc → Prop) (Q : VK), c.S F H σ ρ → R c.K c.T F dx x → f dx P E → c.qV F σ ρ P Q → r x H Q
def OpN (c : Ct) (r : List V → Hp → VK → Prop) (f : List D → WD) : Prop :=
  ∀ (F H : Hp) (σ : L2.St) (ρ : List Slot) (xs : List V) (ds : List D) (P : D → Prop) (E : Exc → Prop) (Q : VK), c.S F H σ ρ → Rs c.K c.T F ds xs → f ds P E → c.qV F σ ρ P Q → r xs H Q
def w2 (f : D → D → WD) (wa wb : WE) : WE := fun ρ P E => wa ρ (fun x => wb ρ (fun y => f x y P E) E) E
def w1 (f : D → WD) (wa : WE) : WE := fun ρ P E => wa ρ (fun x => f x P E) E
variable {wa wb wc : WE}
theorem two {r : R2} {f : D → D → WD} (h : Op2 c r f) (σ : L2.St) (H : Hp) (Q : VK) : liftE c (w2 f wa wb) σ H Q → tOp r (liftE c wa) (liftE c wb) σ H Q := by
  rintro ⟨F, ρ, P, E, S, w, q, x⟩
  exact ⟨F, ρ, _, E, S, w, fun d v F1 H1 w1 S1 e1 r1 => ⟨F1, ρ, _, E, S1, w1, fun d2 v2 F2 H2 w2 S2 e2 r2 => h F2 H2 σ ρ v v2 d d2 P E Q S2 (r1.mono e2) r2 w2 (q.up (e1.trans e2)), x.up e1⟩, x⟩
theorem lv_op {op : Operator} {r : R2} {f : D → D → WD} (ho : OpR X (binaryOp op) r) (h : Op2 c r f) (ha : PE X a (liftE c wa)) (hb : PE X b (liftE c wb)) : PE X (.BinOp a op b pos) (liftE c (w2 f wa wb)) :=
  pe_weak (pe_op ho ha hb) (two h)
theorem lv_un {op : UnaryOp} {r : V → Hp → VK → Prop} {f : D → WD} (ho : UnR X (unaryOp op) r) (h : Op1 c r f) (ha : PE X a (liftE c wa)) : PE X (.UnaryOp op a pos) (liftE c (w1 f wa)) :=
  pe_weak (pe_un ho ha) fun σ H Q ⟨F, ρ, P, E, S, w, q, x⟩ => ⟨F, ρ, _, E, S, w, fun d v F1 H1 w1 S1 e1 r1 => h F1 H1 σ ρ v d P E Q S1 r1 w1 (q.up e1), x⟩
theorem lv_cmp {op : CmpOp} {r : R2} {f : D → D → WD} (ho : OpR X (compareOp op) r) (h : Op2 c r f) (ha : PE X a (liftE c wa)) (hb : PE X b (liftE c wb)) (hm : behindInMarks op b = false) : PE X (.Compare a [op] [b] pos) (liftE c (w2 f wa wb)) :=
  pe_weak (pe_cmpR ho ha hb hm) (two h)
end
end Tr

namespace Tr
open PySem PySem.Spec PyProof.Rows L2

/-! ### the operators upon trees -/
def dI2 (C : Int → Int → Prop) (g : Int → Int → D) : D → D → WD
  | .int i, .int j => fun P _ => C i j ∧ P (g i j)
  | _, _ => fun _ _ => False
def dI2' (g : Int → Int → D) : D → D → WD
  | .int i, .int j => fun P _ => P (g i j)
  | _, _ => fun _ _ => False
def dAdd : D → D → WD
  | .int i, .int j => fun P _ => P (.int (i + j))
  | .lst xs, .lst ys => fun P _ => xs.length + ys.length ≤ sizeLine ∧ P (.lst (xs ++ ys))
  | .tup xs, .tup ys => fun P _ => xs.length + ys.length ≤ sizeLine ∧ P (.tup (xs ++ ys))
  | .str x, .str y => fun P _ => x.length + y.length ≤ sizeLine ∧ P (.str (x ++ y))
  | _, _ => fun _ _ => False
def dSub : D → D → WD := dI2' fun i j => .int (i - j)
structure MulOk (i j : Int) : Prop where
  ok : IntMulOk i j
def dMul : D → D → WD := dI2 MulOk fun i j => .int (i * j)
def dDiv : D → D → WD := dI2 CDivW fun i j => .int (i / j)
def dMod : D → D → WD := dI2 (fun _ j => 0 < j) fun i j => .int (i % j)
/-- a power that the model takes: the bits of the base times the exponent stay below 2 ^ 27 -/
structure PowW (i j : Int) : Prop where
  ok : 0 ≤ j ∧ (PySem.Builtin.Int.intBits i : Int) * j ≤ 2 ^ 27
def dPow : D → D → WD := dI2 PowW fun i j => .int (i ^ j.toNat)
def dShl : D → D → WD := dI2 CPow fun i j => .int (i * 2 ^ j.toNat)
def dShr : D → D → WD := dI2 (fun _ j => 0 ≤ j) fun i j => .int (i / 2 ^ j.toNat)
def dNeg : D → WD
  | .int i => fun P _ => P (.int (-i))
  | _ => fun _ _ => False
def dLt : D → D → WD := dI2' fun i j => .bl (decide (i < j))
def dLe : D → D → WD := dI2' fun i j => .bl (decide (i ≤ j))
def dGt : D → D → WD := dI2' fun i j => .bl (decide (j < i))
def dGe : D → D → WD := dI2' fun i j => .bl (decide (j ≤ i))
mutual
def toP : D → PyData
  | .non => .none
  | .bl b => .bool b
  | .int i => .int i
  | .str x => .str x
  | .tup ds => .tuple (toPs ds)
  | .lst ds => .list (toPs ds)
  | .ty _ => .dict []
  | .ins _ _ _ => .dict []
  | .cell _ => .dict []
  | .dct _ => .dict []
def toPs : List D → List PyData
  | [] => []
  | d :: ds => toP d :: toPs ds
end
def dEqG (neg : Bool) (a b : D) : WD := fun P _ => SeqAt.shaped (toP a) = true ∧ SeqAt.shaped (toP b) = true ∧ P (.bl (xor neg (PyData.eqv (toP a) (toP b))))
def dEq : D → D → WD
  | .int i, .int j => fun P _ => P (.bl (decide (i = j)))
  | .bl i, .bl j => fun P _ => P (.bl (decide (i = j)))
  | .str i, .str j => fun P _ => P (.bl (decide (i = j)))
  | a, b => dEqG false a b
def dNe : D → D → WD
  | .int i, .int j => fun P _ => P (.bl (!decide (i = j)))
  | .bl i, .bl j => fun P _ => P (.bl (!decide (i = j)))
  | .str i, .str j => fun P _ => P (.bl (!decide (i = j)))
  | a, b => dEqG true a b
def isNon : D → Bool
  | .non => true
  | _ => false
def dIs (neg : Bool) : D → D → WD
  | a, .non => fun P _ => P (.bl (xor neg (isNon a)))
  | .bl a, .bl b => fun P _ => P (.bl (xor neg (decide (a = b))))
  | _, _ => fun _ _ => False
/-- x in xs, xs a list or a tuple of plain data -/
def inG (neg : Bool) (a : D) (ds : List D) : WD := fun P _ => (toP a).canLay0 = true ∧ (toP a).depth ≤ 20 ∧ PyData.canLayAll0 (toPs ds) = true ∧ P (.bl (xor neg ((toPs ds).any fun y => PyData.eqv y (toP a))))
def dIn (neg : Bool) : D → D → WD
  | a, .lst ds => inG neg a ds
  | a, .tup ds => inG neg a ds
  | .str c, .str z => fun P _ => ∃ k, c = ⟨#[k]⟩ ∧ P (.bl (xor neg (decide (k ∈ z.cps.toList))))
  | .tup ds, .dct ks => fun P _ => ∃ k, nkey (.tup ds) = some k ∧ k.depth ≤ 8 ∧ P (.bl (xor neg (ks.any fun y => decide (nkey y = some k))))
  | _, _ => fun _ _ => False
def dIx : D → D → WD
  | .lst xs, .int i => fun P _ => match atI xs i with | some d => P d | none => False
  | .tup xs, .int i => fun P _ => match atI xs i with | some d => P d | none => False
  | .str x, .int i => fun P _ => x.length ≤ sizeLine ∧ match atI x.cps.toList i with | some k => P (.str ⟨#[k]⟩) | none => False
  | .cell k, .int i => fun P _ => k = 2 ∧ i = 0 ∧ ∀ z : Int, 0 ≤ z → P (.int z)
  | _, _ => fun _ _ => False

section
variable {c : Ct} {X : Cx}
theorem op2_I {C : Int → Int → Prop} {g : Int → Int → V} {h : Int → Int → D} (hr : ∀ F i j, R c.K c.T F (h i j) (g i j)) : Op2 c (rI C g) (dI2 C h) := by
  intro F H σ ρ x y dx dy P E Q S rx ry w q
  cases dx with
  | int i =>
    cases dy with
    | int j => exact ⟨i, j, rx, ry, w.1, q _ _ F H w.2 S (Same.refl F) (hr F i j)⟩
    | _ => exact False.elim w
  | _ => exact False.elim w
theorem op2_I0 {g : Int → Int → V} {h : Int → Int → D} (hr : ∀ F i j, R c.K c.T F (h i j) (g i j)) : Op2 c (rI0 g) (dI2' h) := by
  intro F H σ ρ x y dx dy P E Q S rx ry w q
  cases dx with
  | int i =>
    cases dy with
    | int j => exact ⟨i, j, rx, ry, q _ _ F H w S (Same.refl F) (hr F i j)⟩
    | _ => exact False.elim w
  | _ => exact False.elim w
theorem op2_or {r r' : R2} {f : D → D → WD} (h : ∀ F H σ ρ x y dx dy P E Q, c.S F H σ ρ → R c.K c.T F dx x → R c.K c.T F dy y → f dx dy P E → c.qV F σ ρ P Q → r x y H Q ∨ r' x y H Q) : Op2 c (fun x y H Q => r x y H Q ∨ r' x y H Q) f :=
  fun F H σ ρ x y dx dy P E Q S rx ry w q => h F H σ ρ x y dx dy P E Q S rx ry w q

theorem SqL.sub {F H : Hp} (h : Same F H) {K : PySem.W.Frag} {a : Addr} {xs : List V} (s : SqL K F a xs) : SqL K H a xs := h.seq s
theorem SqT.sub {F H : Hp} (h : Same F H) {K : PySem.W.Frag} {a : Addr} {xs : List V} (s : SqT K F a xs) : SqT K H a xs := by
  rcases s with (s | ⟨o, s⟩) | s
  · exact .inl (.inl (h _ _ s))
  · exact .inl (.inr ⟨o, h _ _ s⟩)
  · exact .inr s
/-- a new frozen list, tuple -/
theorem new_lst {F H : Hp} {σ : L2.St} {ρ : List Slot} {P : D → Prop} {Q : VK} {ds : List D} {vs : List V} (S : c.S F H σ ρ) (r : Rs c.K c.T F ds vs) (w : P (.lst ds)) (q : c.qV F σ ρ P Q) : ∀ p, H p = none → Q (.ref p) (upd H p (.lst vs)) := fun p np => by
  obtain ⟨S', e⟩ := Stt.frozen S np (.lst vs) (fun _ z => nomatch z)
  exact q _ _ _ _ w S' e ⟨p, vs, rfl, .inl (.inl upd_same), r.mono e⟩
theorem new_tup {F H : Hp} {σ : L2.St} {ρ : List Slot} {P : D → Prop} {Q : VK} {ds : List D} {vs : List V} (S : c.S F H σ ρ) (r : Rs c.K c.T F ds vs) (w : P (.tup ds)) (q : c.qV F σ ρ P Q) : ∀ p, H p = none → Q (.ref p) (upd H p (.tup vs)) := fun p np => by
  obtain ⟨S', e⟩ := Stt.frozen S np (.tup vs) (fun _ z => nomatch z)
  exact q _ _ _ _ w S' e ⟨p, vs, rfl, .inl (.inl upd_same), r.mono e⟩

/-- + of two lists of any kind -/
def rCatL (K : PySem.W.Frag) : R2 := fun x y H Q => ∃ l b xs zs, x = .ref l ∧ y = .ref b ∧ SqL K H l xs ∧ SqL K H b zs ∧ xs.length + zs.length ≤ sizeLine ∧ ∀ p, H p = none → Q (.ref p) (upd H p (.lst (xs ++ zs)))
theorem op_catL : OpR X (binaryOp .Add) (rCatL X.K) := by
  intro pins s σ H x y v u Q I rx ry h
  obtain ⟨l, b, xs, zs, rfl, rfl, hH, hB, hz, q⟩ := h
  cases rx
  cases ry
  obtain ⟨its, r, ⟨⟨cls, dd, data, sl⟩, n, ho, hc, _, hd⟩, hl⟩ := I.list hH
  obtain ⟨its2, r2, ⟨⟨cls2, dd2, data2, sl2⟩, n2, ho2, hc2, _, hd2⟩, hl2⟩ := I.list hB
  simp only at hc hd hc2 hd2
  subst hc hd hc2 hd2
  have l1 := r.length
  have l2 := r2.length
  have e : its.toArray ++ its2.toArray = (its ++ its2).toArray := by simp
  refine concat_meets ⟨_, ho, rfl⟩ ⟨_, ho2, rfl⟩ noFill_list_add seq_list_add PySem.F.slot_list_add PySem.F.entry_list_add (PySem.F.args_list_add_2 _ _) (list_addW l b its.toArray its2.toArray n n2 dd dd2 sl sl2 (by rw [List.size_toArray, List.size_toArray]; omega)) ⟨ho, ho2, ?_⟩
  rw [e]
  exact ⟨.ref _, _, I.lnew (t' := s.toks) (r.append r2) (by rw [List.length_append]; omega), rfl, q _ I.fresh⟩

/-- + -/
def rAddD (K : PySem.W.Frag) : R2 := fun x y H Q => (((∃ i j, x = .int i ∧ y = .int j ∧ Q (.int (i + j)) H) ∨ rCatL K x y H Q) ∨ rCatA K x y H Q) ∨ (∃ i j, x = .str i ∧ y = .str j ∧ i.length + j.length ≤ sizeLine ∧ Q (.str (i ++ j)) H)
theorem op_addD : OpR X (binaryOp .Add) (rAddD X.K) := ((op_add.or op_catL).or op_catA).or op_add_str
theorem op2_add : Op2 c (rAddD c.K) dAdd := by
  intro F H σ ρ x y dx dy P E Q S rx ry w q
  cases dx with
  | int i =>
    cases dy with
    | int j => exact .inl (.inl (.inl ⟨i, j, rx, ry, q _ _ F H w S (Same.refl F) rfl⟩))
    | _ => exact False.elim w
  | str i =>
    cases dy with
    | str j => exact .inr ⟨i, j, rx, ry, w.1, q _ _ F H w.2 S (Same.refl F) rfl⟩
    | _ => exact False.elim w
  | lst ds =>
    cases dy with
    | lst es =>
      obtain ⟨a, vs, rfl, s1, r1⟩ := rx
      obtain ⟨b, us, rfl, s2, r2⟩ := ry
      exact .inl (.inl (.inr ⟨a, b, vs, us, rfl, rfl, S.gr.sub.seq s1, S.gr.sub.seq s2, by rw [← r1.length, ← r2.length]; exact w.1, new_lst S (r1.append r2) w.2 q⟩))
    | _ => exact False.elim w
  | tup ds =>
    cases dy with
    | tup es =>
      obtain ⟨a, vs, rfl, s1, r1⟩ := rx
      obtain ⟨b, us, rfl, s2, r2⟩ := ry
      refine .inl (.inr ⟨a, b, vs, us, rfl, rfl, S.gr.sub.sqT s1, S.gr.sub.sqT s2, by rw [← r1.length, ← r2.length]; exact w.1, fun e => ?_, fun _ e => ?_, fun _ _ => new_tup S (r1.append r2) w.2 q⟩)
      · subst e
        have e1 : ds = [] := List.length_eq_zero_iff.mp r1.length
        subst e1
        exact q _ _ F H w.2 S (Same.refl F) ⟨b, us, rfl, s2, r2⟩
      · subst e
        have e1 : es = [] := List.length_eq_zero_iff.mp r2.length
        subst e1
        exact q _ _ F H w.2 S (Same.refl F) ⟨a, vs, rfl, s1, by rw [List.append_nil]; exact r1⟩
    | _ => exact False.elim w
  | _ => exact False.elim w
theorem op_powI : OpR X (binaryOp .Pow) (rI PowW fun i j => .int (i ^ j.toNat)) := opI fun _ _ _ _ _ _ _ hc q => pow_int hc.ok.1 hc.ok.2 q
theorem op_mulI : OpR X (binaryOp .Mult) (rI MulOk fun i j => .int (i * j)) := opI fun _ _ _ _ _ _ _ hc q => mul_int q hc.ok
theorem op1_neg : Op1 c (rU fun i => .int (-i)) dNeg := by
  intro F H σ ρ x dx P E Q S rx w q
  cases dx with
  | int i => exact ⟨i, rx, q _ _ F H w S (Same.refl F) rfl⟩
  | _ => exact False.elim w

/-! ### == -/
mutual
theorem dp_of (K : PySem.W.Frag) (T : Tab) {F H : Hp} (h : Sub F H) : ∀ (d : D) (v : V), R K T F d v → SeqAt.shaped (toP d) = true ∨ (toP d).canLay0 = true → Dp K H v (toP d)
  | .non, v, r, _ => by cases r; exact .non
  | .bl b, v, r, _ => by cases r; exact .bl b
  | .int i, v, r, _ => by cases r; exact .int i
  | .str x, v, r, _ => by cases r; exact .str x
  | .ty n, v, r, z => by
    rcases z with z | z
    · exact absurd (SeqAt.canLay_of_shaped z) (by simp [toP, PyData.canLay0])
    · exact absurd z (by simp [toP, PyData.canLay0])
  | .ins _ _ _, v, r, z => by
    rcases z with z | z
    · exact absurd (SeqAt.canLay_of_shaped z) (by simp [toP, PyData.canLay0])
    · exact absurd z (by simp [toP, PyData.canLay0])
  | .cell _, v, r, z => by
    rcases z with z | z
    · exact absurd (SeqAt.canLay_of_shaped z) (by simp [toP, PyData.canLay0])
    · exact absurd z (by simp [toP, PyData.canLay0])
  | .dct _, v, r, z => by
    rcases z with z | z
    · exact absurd (SeqAt.canLay_of_shaped z) (by simp [toP, PyData.canLay0])
    · exact absurd z (by simp [toP, PyData.canLay0])
  | .tup ds, v, r, z => by
    obtain ⟨a, vs, rfl, s, q⟩ := r
    refine .tup (h.sqT s) (dps_of K T h ds vs q ?_)
    rcases z with z | z
    · simpa [toP, PyData.canLay0] using SeqAt.canLay_of_shaped z
    · simpa [toP, PyData.canLay0] using z
  | .lst ds, v, r, z => by
    obtain ⟨a, vs, rfl, s, q⟩ := r
    refine .lst (h.seq s) (dps_of K T h ds vs q ?_)
    rcases z with z | z
    · simpa [toP, PyData.canLay0] using SeqAt.canLay_of_shaped z
    · simpa [toP, PyData.canLay0] using z
theorem dps_of (K : PySem.W.Frag) (T : Tab) {F H : Hp} (h : Sub F H) : ∀ (ds : List D) (vs : List V), Rs K T F ds vs → PyData.canLayAll0 (toPs ds) = true → DpAll K H vs (toPs ds)
  | [], vs, q, _ => by cases q; exact .nil
  | d :: ds, vs, q, z => by
    obtain ⟨v, r, rfl, a, b⟩ := q
    rw [toPs, PyData.canLayAll0, Bool.and_eq_true] at z
    exact .cons (dp_of K T h d v a (.inr z.1)) (dps_of K T h ds r b z.2)
end
def rEqA (K : PySem.W.Frag) : R2 := fun x y H Q => rEq x y H Q ∨ rEqD K x y H Q
def rNeA (K : PySem.W.Frag) : R2 := fun x y H Q => rNe x y H Q ∨ rNeD K x y H Q
theorem op_eqA (hu : X.A.units + 64 < cLine) : OpR X (compareOp .Eq) (rEqA X.K) := op_eq.or (op_eqD hu)
theorem op_neA (hu : X.A.units + 64 < cLine) : OpR X (compareOp .NotEq) (rNeA X.K) := op_ne.or (op_neD hu)
theorem eqG {F H : Hp} {σ : L2.St} {ρ : List Slot} {x y : V} {dx dy : D} {P : D → Prop} {E : Exc → Prop} {Q : VK} (S : c.S F H σ ρ) (rx : R c.K c.T F dx x) (ry : R c.K c.T F dy y) (w : dEqG false dx dy P E) (q : c.qV F σ ρ P Q) : rEqD c.K x y H Q := by
  obtain ⟨h1, h2, w⟩ := w
  exact ⟨_, _, dp_of _ _ S.gr.sub dx x rx (.inl h1), dp_of _ _ S.gr.sub dy y ry (.inl h2), h1, h2, q _ _ F H w S (Same.refl F) (by rw [Bool.false_xor]; rfl)⟩
theorem neG {F H : Hp} {σ : L2.St} {ρ : List Slot} {x y : V} {dx dy : D} {P : D → Prop} {E : Exc → Prop} {Q : VK} (S : c.S F H σ ρ) (rx : R c.K c.T F dx x) (ry : R c.K c.T F dy y) (w : dEqG true dx dy P E) (q : c.qV F σ ρ P Q) : rNeD c.K x y H Q := by
  obtain ⟨h1, h2, w⟩ := w
  exact ⟨_, _, dp_of _ _ S.gr.sub dx x rx (.inl h1), dp_of _ _ S.gr.sub dy y ry (.inl h2), h1, h2, q _ _ F H w S (Same.refl F) (by rw [Bool.true_xor]; rfl)⟩
theorem op2_eq : Op2 c (rEqA c.K) dEq := by
  intro F H σ ρ x y dx dy P E Q S rx ry w q
  unfold dEq at w
  split at w
  · cases rx; cases ry
    refine .inl ⟨rfl, q _ _ F H w S (Same.refl F) ?_⟩
    rw [dec_int, Bool.beq_eq_decide_eq]; rfl
  · cases rx; cases ry
    refine .inl ⟨rfl, q _ _ F H w S (Same.refl F) ?_⟩
    rw [dec_bl, Bool.beq_eq_decide_eq]; rfl
  · cases rx; cases ry
    refine .inl ⟨rfl, q _ _ F H w S (Same.refl F) ?_⟩
    rw [dec_str, Bool.beq_eq_decide_eq]; rfl
  · exact .inr (eqG S rx ry w q)
theorem op2_ne : Op2 c (rNeA c.K) dNe := by
  intro F H σ ρ x y dx dy P E Q S rx ry w q
  unfold dNe at w
  split at w
  · cases rx; cases ry
    refine .inl ⟨rfl, q _ _ F H w S (Same.refl F) ?_⟩
    rw [dec_int, Bool.beq_eq_decide_eq]; rfl
  · cases rx; cases ry
    refine .inl ⟨rfl, q _ _ F H w S (Same.refl F) ?_⟩
    rw [dec_bl, Bool.beq_eq_decide_eq]; rfl
  · cases rx; cases ry
    refine .inl ⟨rfl, q _ _ F H w S (Same.refl F) ?_⟩
    rw [dec_str, Bool.beq_eq_decide_eq]; rfl
  · exact .inr (neG S rx ry w q)

/-! ### in -/
def rInA (K : PySem.W.Frag) (neg : Bool) : R2 := fun x y H Q => ∃ d ds, Dp K H x d ∧ (Dp K H y (.list ds) ∨ Dp K H y (.tuple ds)) ∧ d.canLay0 = true ∧ PyData.canLayAll0 ds = true ∧ d.depth ≤ 20 ∧ Q (.bl (xor neg (ds.any fun z => PyData.eqv z d))) H
theorem in_room {A : Around} {d : PyData} {k : Nat} (hu : A.units + 64 < cLine) (h : d.depth ≤ 20) : A.units + 1 + min k d.depth < cLine := by
  have := Nat.min_le_right k d.depth
  omega
theorem op_inA (hu : X.A.units + 64 < cLine) : OpR X (compareOp .In) (rInA X.K false) := by
  intro pins s σ H x y v u Q I rx ry h
  obtain ⟨d, ds, hd, he, sd, se, dd, q⟩ := h
  rw [Bool.false_xor] at q
  obtain ⟨as, r1⟩ := Dp.reads I d x v hd rx
  rcases he with he | he
  · obtain ⟨bs, r2⟩ := Dp.reads I _ y u he ry
    exact SeqAt.in_list_reads r2 r1 se sd (in_room hu dd) ⟨.bl _, H, I, rfl, q⟩
  · obtain ⟨bs, r2⟩ := Dp.reads I _ y u he ry
    exact SeqAt.in_tuple_reads r2 r1 se sd (in_room hu dd) ⟨.bl _, H, I, rfl, q⟩
theorem op_notInA (hu : X.A.units + 64 < cLine) : OpR X (compareOp .NotIn) (rInA X.K true) := by
  intro pins s σ H x y v u Q I rx ry h
  obtain ⟨d, ds, hd, he, sd, se, dd, q⟩ := h
  rw [Bool.true_xor] at q
  obtain ⟨as, r1⟩ := Dp.reads I d x v hd rx
  rcases he with he | he
  · obtain ⟨bs, r2⟩ := Dp.reads I _ y u he ry
    exact SeqAt.notIn_list_reads r2 r1 se sd (in_room hu dd) ⟨.bl _, H, I, rfl, q⟩
  · obtain ⟨bs, r2⟩ := Dp.reads I _ y u he ry
    exact SeqAt.notIn_tuple_reads r2 r1 se sd (in_room hu dd) ⟨.bl _, H, I, rfl, q⟩
def rInB (K : PySem.W.Frag) (neg : Bool) : R2 := fun x y H Q => rInA K neg x y H Q ∨ ∃ k z, x = .str ⟨#[k]⟩ ∧ y = .str z ∧ Q (.bl (xor neg (decide (k ∈ z.cps.toList)))) H
theorem op_inB (hu : X.A.units + 64 < cLine) : OpR X (compareOp .In) (rInB X.K false) := (op_inA hu).or fun pins s σ H x y v u Q I rx ry ⟨k, z, e1, e2, q⟩ => op_in_sign pins s σ H x y v u Q I rx ry ⟨k, z, e1, e2, by rw [Bool.false_xor] at q; exact q⟩
theorem op_notInB (hu : X.A.units + 64 < cLine) : OpR X (compareOp .NotIn) (rInB X.K true) := (op_notInA hu).or fun pins s σ H x y v u Q I rx ry ⟨k, z, e1, e2, q⟩ => op_notIn_sign pins s σ H x y v u Q I rx ry ⟨k, z, e1, e2, by rw [Bool.true_xor] at q; exact q⟩
theorem keys_any {xs : Ents} {ks : List D} {k : NestedKey} (h : xs.map (fun x => some x.1) = ks.map nkey) : (xs.any fun z => decide (z.1 = k)) = ks.any fun y => decide (nkey y = some k) := by
  have e1 : (xs.any fun z => decide (z.1 = k)) = (xs.map fun x => some x.1).any fun o => decide (o = some k) := by
    rw [List.any_map]
    congr 1
    funext z
    simp
  rw [e1, h, List.any_map]
  rfl
/-- the keys of a dict stand -/
theorem keys_at {K : PySem.W.Frag} {T : Tab} {F : Hp} : ∀ {xs : Ents} {ks : List D}, xs.map (fun x => some x.1) = ks.map nkey → (∀ z ∈ xs, z.1.depth ≤ 8) → Rs K T F ks (xs.map fun x => .ref x.2.1) → KeysAt K F xs
  | [], _, _, _, _ => fun z hz => nomatch hz
  | x :: xs, [], h, _, _ => by cases h
  | x :: xs, k :: ks, h, d, r => by
    obtain ⟨v, t, e, a, b⟩ := r
    simp only [List.map_cons, List.cons.injEq] at h e
    obtain ⟨h1, h2⟩ := h
    obtain ⟨e1, e2⟩ := e
    subst e1
    intro z hz
    rcases List.mem_cons.mp hz with rfl | hz
    · exact ⟨nk_of a h1.symm, d _ List.mem_cons_self⟩
    · exact keys_at h2 (fun z hz => d z (List.mem_cons_of_mem _ hz)) (e2 ▸ b) z hz
def rInC (X : Cx) (neg : Bool) : R2 := fun x y H Q => rInB X.K neg x y H Q ∨ rInDx X neg x y H Q
theorem op_inC (hu : X.A.units + 64 < cLine) : OpR X (compareOp .In) (rInC X false) := (op_inB hu).or (op_inDx hu)
theorem op_notInC (hu : X.A.units + 64 < cLine) : OpR X (compareOp .NotIn) (rInC X true) := (op_notInB hu).or (op_notInDx hu)
theorem Sub.tup {K : PySem.W.Frag} {F H : Hp} (h : Sub F H) : TupSub K F H := fun _ _ s => h.sqT s
theorem op2_in {neg : Bool} (hK : X.K = c.K) (hP : X.prog = c.T.pr) (hW : X.w = c.T.wd) : Op2 c (rInC X neg) (dIn neg) := by
  intro F H σ ρ x y dx dy P E Q S rx ry w q
  unfold dIn at w
  split at w
  · rename_i ds
    obtain ⟨h1, h2, h3, w⟩ := w
    have e : (toP (.lst ds)).canLay0 = true := by simpa [toP, PyData.canLay0] using h3
    have k := dp_of _ _ S.gr.sub (.lst ds) y ry (.inr e)
    exact .inl (.inl ⟨_, toPs ds, hK ▸ dp_of _ _ S.gr.sub dx x rx (.inr h1), .inl (by rw [hK]; simpa [toP] using k), h1, h3, h2, q _ _ F H w S (Same.refl F) rfl⟩)
  · rename_i ds
    obtain ⟨h1, h2, h3, w⟩ := w
    have e : (toP (.tup ds)).canLay0 = true := by simpa [toP, PyData.canLay0] using h3
    have k := dp_of _ _ S.gr.sub (.tup ds) y ry (.inr e)
    exact .inl (.inl ⟨_, toPs ds, hK ▸ dp_of _ _ S.gr.sub dx x rx (.inr h1), .inr (by rw [hK]; simpa [toP] using k), h1, h3, h2, q _ _ F H w S (Same.refl F) rfl⟩)
  · obtain ⟨k, e, w⟩ := w
    subst e
    cases rx
    cases ry
    exact .inl (.inr ⟨k, _, rfl, rfl, q _ _ F H w S (Same.refl F) rfl⟩)
  · rename_i ds ks
    obtain ⟨k, e, dk, w⟩ := w
    have nk := nk_of rx e
    obtain ⟨a, vs, rfl, s1, r1⟩ := rx
    obtain ⟨D, xs, rfl, eD, em, ed, er⟩ := ry
    refine .inr ⟨a, D, xs, k, rfl, rfl, ?_, ?_, ?_, dk, ?_⟩
    · rw [hP, hW]
      exact S.gr.sub.p _ _ eD fun i z => by unfold DxO mkr at z; cases z
    · rw [hK]
      exact (keys_at em ed er).up S.gr.sub.tup
    · rw [hK]
      exact nk.up S.gr.sub.tup
    · rw [keys_any em]
      exact q _ _ F H w S (Same.refl F) rfl
  · exact w.elim

/-! ### is -/
theorem R.non_iff {K : PySem.W.Frag} {T : Tab} {F : Hp} {d : D} {v : V} (r : R K T F d v) : decide (v = .non) = isNon d := by
  cases d with
  | non => cases r; rfl
  | tup ds => obtain ⟨a, vs, rfl, _⟩ := r; rfl
  | lst ds => obtain ⟨a, vs, rfl, _⟩ := r; rfl
  | ins k ns ds => obtain ⟨a, dx, vs, rfl, _⟩ := r; rfl
  | cell i => obtain ⟨a, rfl, _⟩ := r; rfl
  | dct ks => obtain ⟨a, xs, rfl, _⟩ := r; rfl
  | _ => cases r; rfl
def rIsD : R2 := fun x y H Q => (y = .non ∧ Q (.bl (decide (x = .non))) H) ∨ (∃ a b, x = .bl a ∧ y = .bl b ∧ Q (.bl (decide (a = b))) H)
def rNotD : R2 := fun x y H Q => (y = .non ∧ Q (.bl (!decide (x = .non))) H) ∨ (∃ a b, x = .bl a ∧ y = .bl b ∧ Q (.bl (!decide (a = b))) H)
theorem op_isD : OpR X (compareOp .Is) rIsD := op_isN.or op_is_bl
theorem op_notD : OpR X (compareOp .IsNot) rNotD := op_notN.or op_isnot_bl
theorem op2_is : Op2 c rIsD (dIs false) := by
  intro F H σ ρ x y dx dy P E Q S rx ry w q
  unfold dIs at w
  split at w
  · exact .inl ⟨ry, q _ _ F H w S (Same.refl F) (by rw [rx.non_iff, Bool.false_xor]; rfl)⟩
  · exact .inr ⟨_, _, rx, ry, q _ _ F H w S (Same.refl F) (by rw [Bool.false_xor]; rfl)⟩
  · exact w.elim
theorem op2_not : Op2 c rNotD (dIs true) := by
  intro F H σ ρ x y dx dy P E Q S rx ry w q
  unfold dIs at w
  split at w
  · exact .inl ⟨ry, q _ _ F H w S (Same.refl F) (by rw [rx.non_iff, Bool.true_xor]; rfl)⟩
  · exact .inr ⟨_, _, rx, ry, q _ _ F H w S (Same.refl F) (by rw [Bool.true_xor]; rfl)⟩
  · exact w.elim

/-! ### subscripts -/
theorem Rs.at {K : PySem.W.Frag} {T : Tab} {F : Hp} {ds : List D} {vs : List V} {i : Int} {d : D} (r : Rs K T F ds vs) (h : atI ds i = some d) : ∃ v, atI vs i = some v ∧ R K T F d v := by
  unfold atI at h ⊢
  rw [← r.length]
  cases e : ixN ds.length i with
  | none => rw [e] at h; cases h
  | some j =>
    rw [e] at h
    exact r.get h
def rIxD (K : PySem.W.Frag) : R2 := fun x y H Q => (rIxL K x y H Q ∨ rIxT K x y H Q) ∨ rIxS x y H Q
theorem ix_D : IxR X (rIxD X.K) := (ix_list.or ix_tup).or ix_str
theorem op2_ix : Op2 c (rIxD c.K) dIx := by
  intro F H σ ρ x y dx dy P E Q S rx ry w q
  unfold dIx at w
  split at w
  · obtain ⟨a, vs, rfl, s, r⟩ := rx
    split at w
    · rename_i d e
      obtain ⟨v, h1, h2⟩ := r.at e
      exact .inl (.inl ⟨a, vs, _, v, rfl, ry, S.gr.sub.seq s, h1, q _ _ F H w S (Same.refl F) h2⟩)
    · exact w.elim
  · obtain ⟨a, vs, rfl, s, r⟩ := rx
    split at w
    · rename_i d e
      obtain ⟨v, h1, h2⟩ := r.at e
      exact .inl (.inr ⟨a, vs, _, v, rfl, ry, S.gr.sub.sqT s, h1, q _ _ F H w S (Same.refl F) h2⟩)
    · exact w.elim
  · obtain ⟨hl, w⟩ := w
    cases rx
    cases ry
    split at w
    · rename_i k e
      exact .inr ⟨_, _, k, rfl, rfl, hl, e, q _ _ F H w S (Same.refl F) rfl⟩
    · exact w.elim
  · obtain ⟨e1, e2, w⟩ := w
    subst e1 e2
    obtain ⟨a, rfl, e⟩ := rx
    cases ry
    obtain ⟨z, hz, z0⟩ := S.gr.cel.dig e
    exact .inl (.inl ⟨a, _, 0, .int z, rfl, rfl, .inl (.inl hz), rfl, q _ _ F H (w z z0) S (Same.refl F) rfl⟩)
  · exact w.elim
theorem lv_ix {a b : Expr} {wa wb : WE} {pos : Pos} (hK : X.K = c.K) (ha : PE X a (liftE c wa)) (hb : PE X b (liftE c wb)) (hs : PlainIx b) : PE X (.Subscript a b pos) (liftE c (w2 dIx wa wb)) :=
  pe_weak (pe_ix ix_D ha hb hs) (two (hK ▸ op2_ix))
end
end Tr

namespace Tr
open PySem PySem.Spec PyProof.Rows L2

/-- the classes: their fields; which is under which -/
structure Sig where
  fld : List (List Nat)
  sub : Nat → Nat → Bool
/-- what the written part says of the classes -/
structure KOk (K : PySem.W.Frag) (T : Tab) (s : Sig) : Prop where
  inj : ∀ i j, T.nm i = T.nm j → i = j
  cls : ∀ k, k < s.fld.length → Cls K (T.cad k)
  na : ∀ k n, (s.fld.getD k []).contains n = true → NoAttr K (T.cad k) (T.nm n)
  ha : ∀ k, k < s.fld.length → PySem.W.findIn K (.ref (T.cad k)) "__class__" = some (some (.builtin "object.__class__"))
  hn : PySem.W.specialIn K (.builtin "object.__class__") "__get__" = some (some (.builtin "getset_descriptor.__get__"))
  htk : PySem.W.takesIn K (.builtin "object.__class__") = some true
  hm : ∀ k, k < s.fld.length → PySem.W.mroIn K (T.cad k) (.type "object") = some true
  kit : ∀ i j, i < s.fld.length → j < s.fld.length → PySem.W.kitOne K (.ref (T.cad i)) (.ref (T.cad j)) = some (s.sub i j)
  kit0 : ∀ j, j < s.fld.length → ∀ t ∈ ["NoneType", "bool", "int", "str", "list", "tuple"], PySem.W.kitOne K (.type t) (.ref (T.cad j)) = some false
  kit1 : ∀ i, i < s.fld.length → ∀ t ∈ ["bool", "int", "str", "list", "tuple", "dict", "set"], PySem.W.kitOne K (.ref (T.cad i)) (.type t) = some false

def look (n : Nat) : List Nat → List D → Option D
  | m :: ns, d :: ds => if m = n then some d else look n ns ds
  | _, _ => none
def dFld (s : Sig) (n : Nat) : D → WD
  | .ins k ns vs => fun P _ => k < s.fld.length ∧ (s.fld.getD k []).contains n = true ∧ match look n ns vs with | some d => P d | none => False
  | _ => fun _ _ => False

section
variable {c : Ct} {X : Cx} {s : Sig}
theorem look_ok {K : PySem.W.Frag} {T : Tab} {F : Hp} (inj : ∀ i j, T.nm i = T.nm j → i = j) {n : Nat} : ∀ {ns : List Nat} {ds : List D} {vs : List V} {d : D}, Rs K T F ds vs → look n ns ds = some d → ∃ v, ((ns.map T.nm).zip vs).lookup (T.nm n) = some v ∧ R K T F d v
  | [], [], _, _, _, h => by cases h
  | [], _ :: _, _, _, _, h => by cases h
  | _ :: _, [], _, _, _, h => by cases h
  | m :: ns, d :: ds, _, d', ⟨v, r, e, a, b⟩, h => by
    subst e
    unfold look at h
    by_cases q : m = n
    · subst q
      rw [if_pos rfl] at h
      cases h
      exact ⟨v, by simp, a⟩
    · rw [if_neg q] at h
      obtain ⟨w, h1, h2⟩ := look_ok inj b h
      refine ⟨w, ?_, h2⟩
      have hne : (T.nm n == T.nm m) = false := by
        rw [beq_eq_false_iff_ne]
        exact fun z => q (inj _ _ z.symm)
      simp only [List.map_cons, List.zip_cons_cons, List.lookup, hne]
      exact h1
theorem lv_fld {o : Expr} {wo : WE} {n : Nat} {pos : Pos} (hK : X.K = c.K) (ok : KOk c.K c.T s) (ho : PE X o (liftE c wo)) (hb : attributeBase o (c.T.nm n) X.env (eval o X.env) = eval o X.env) :
    PE X (.Attribute o (c.T.nm n) pos) (liftE c (w1 (dFld s n) wo)) := by
  refine pe_weak (pe_fld ho hb) fun σ H Q ⟨F, ρ, P, E, S, w, q, x⟩ => ⟨F, ρ, _, E, S, w, fun d v F1 H1 w1 S1 e1 r1 => ?_, x⟩
  cases d with
  | ins k ns vs =>
    obtain ⟨h1, h2, w1⟩ := w1
    split at w1
    · rename_i d' e
      obtain ⟨a, dx, us, rfl, s1, l, r⟩ := r1
      obtain ⟨u, e1', r'⟩ := look_ok ok.inj r e
      exact ⟨a, _, dx, _, u, rfl, S1.gr.sub.ins s1, hK ▸ ok.cls k h1, hK ▸ ok.na k n h2, e1', q d' u F1 H1 w1 S1 e1 r'⟩
    · exact w1.elim
  | _ => exact False.elim w1

/-! ### displays, arguments -/
def wNil : WA := fun _ P _ => P []
def wCons (wa : WE) (wr : WA) : WA := fun ρ P E => wa ρ (fun x => wr ρ (fun xs => P (x :: xs)) E) E
def wTup (wa : WA) : WE := fun ρ P E => wa ρ (fun ds => ds.length ≤ sizeLine ∧ P (.tup ds)) E
def wLst (wa : WA) : WE := fun ρ P E => wa ρ (fun ds => ds.length ≤ sizeLine ∧ P (.lst ds)) E
theorem la_nil : PA X [] (liftA c wNil) := pa_weak pa_nil fun σ H Q ⟨F, ρ, P, E, S, w, q, x⟩ => q [] [] F H w S (Same.refl F) rfl
theorem la_cons {e : Expr} {es : List Expr} {wa : WE} {wr : WA} (ha : PE X e (liftE c wa)) (hr : PA X es (liftA c wr)) (hs : starEach (e :: es) X.env = (false, eval e X.env) :: starEach es X.env) : PA X (e :: es) (liftA c (wCons wa wr)) := by
  refine pa_weak (pa_cons ha hr hs) ?_
  rintro σ H Q ⟨F, ρ, P, E, S, w, q, x⟩
  exact ⟨F, ρ, _, E, S, w, fun d v F1 H1 w1 S1 e1 r1 => ⟨F1, ρ, _, E, S1, w1, fun ds vs F2 H2 w2 S2 e2 r2 => q (d :: ds) (v :: vs) F2 H2 w2 S2 (e1.trans e2) ⟨v, vs, rfl, r1.mono e2, r2⟩, x.up e1⟩, x⟩
theorem lv_tup {es : List Expr} {wa : WA} {k pos} (h : PA X es (liftA c wa)) : PE X (.Tuple es k pos) (liftE c (wTup wa)) :=
  pe_weak (pe_tup h) fun σ H Q ⟨F, ρ, P, E, S, w, q, x⟩ => ⟨F, ρ, _, E, S, w, fun ds vs F1 H1 w1 S1 e1 r1 => ⟨by rw [← r1.length]; exact w1.1, new_tup S1 r1 w1.2 (q.up e1)⟩, x⟩
theorem lv_lst {es : List Expr} {wa : WA} {pos} (h : PA X es (liftA c wa)) : PE X (.List es pos) (liftE c (wLst wa)) :=
  pe_weak (pe_lst h) fun σ H Q ⟨F, ρ, P, E, S, w, q, x⟩ => ⟨F, ρ, _, E, S, w, fun ds vs F1 H1 w1 S1 e1 r1 => ⟨by rw [← r1.length]; exact w1.1, new_lst S1 r1 w1.2 (q.up e1)⟩, x⟩

/-! ### built-in calls -/
def wN (f : List D → WD) (wa : WA) : WE := fun ρ P E => wa ρ (fun ds => f ds P E) E
theorem lv_callB {x : Str} {p pos : Pos} {e : Expr} {es : List Expr} {wa : WA} {id : String} {r : List V → Hp → VK → Prop} {f : List D → WD} (hc : CallR X (.builtin id) r) (h : OpN c r f) (hg : Gl X x) (hm : X.mg x = none) (hv : bootBuiltins x = some (.builtin id)) (ha : PA X (e :: es) (liftA c wa)) (hn : x ≠ "__name__") (hdb : (x == ("__debug__" : Str)) = false)
    (he : starEach (e :: es) X.env = (false, eval e X.env) :: starEach es X.env) (hpl : (backTo pos (starEach es X.env)).any (·.1) = false) : PE X (.Call (.Name x p) (e :: es) [] pos) (liftE c (wN f wa)) :=
  pe_weak (pe_callB hc hg hm hv ha hn hdb he hpl) fun σ H Q ⟨F, ρ, P, E, S, w, q, x⟩ => ⟨F, ρ, _, E, S, w, fun ds vs F1 H1 w1 S1 e1 r1 => h F1 H1 σ ρ vs ds P E Q S1 r1 w1 (q.up e1), x⟩
theorem lv_callTy {x : Str} {p pos : Pos} {e : Expr} {es : List Expr} {wa : WA} {T : String} {r : List V → Hp → VK → Prop} {f : List D → WD} (hc : CallR X (.type T) r) (h : OpN c r f) (hg : Gl X x) (hm : X.mg x = none) (hv : bootBuiltins x = some (.type T)) (ha : PA X (e :: es) (liftA c wa)) (hn : x ≠ "__name__") (hdb : (x == ("__debug__" : Str)) = false)
    (he : starEach (e :: es) X.env = (false, eval e X.env) :: starEach es X.env) (hpl : (backTo pos (starEach es X.env)).any (·.1) = false) : PE X (.Call (.Name x p) (e :: es) [] pos) (liftE c (wN f wa)) :=
  pe_weak (pe_callTy hc hg hm hv ha hn hdb he hpl) fun σ H Q ⟨F, ρ, P, E, S, w, q, x⟩ => ⟨F, ρ, _, E, S, w, fun ds vs F1 H1 w1 S1 e1 r1 => h F1 H1 σ ρ vs ds P E Q S1 r1 w1 (q.up e1), x⟩
theorem lv_callM {x : Str} {p pos : Pos} {e : Expr} {es : List Expr} {wa : WA} {id : String} {r : List V → Hp → VK → Prop} {f : List D → WD} (hc : CallR X (.builtin id) r) (h : OpN c r f) (hg : Gl X x) (hm : X.mg x = some (.builtin id)) (ha : PA X (e :: es) (liftA c wa)) (hdb : (x == ("__debug__" : Str)) = false)
    (he : starEach (e :: es) X.env = (false, eval e X.env) :: starEach es X.env) (hpl : (backTo pos (starEach es X.env)).any (·.1) = false) : PE X (.Call (.Name x p) (e :: es) [] pos) (liftE c (wN f wa)) :=
  pe_weak (pe_callBfun hc hg hm ha hdb he hpl) fun σ H Q ⟨F, ρ, P, E, S, w, q, x⟩ => ⟨F, ρ, _, E, S, w, fun ds vs F1 H1 w1 S1 e1 r1 => h F1 H1 σ ρ vs ds P E Q S1 r1 w1 (q.up e1), x⟩

theorem rs1 {K : PySem.W.Frag} {T : Tab} {F : Hp} {d : D} {xs : List V} (r : Rs K T F [d] xs) : ∃ v, xs = [v] ∧ R K T F d v := by
  obtain ⟨v, t, rfl, h, e⟩ := r
  cases e
  exact ⟨v, rfl, h⟩
theorem rs2 {K : PySem.W.Frag} {T : Tab} {F : Hp} {d e : D} {xs : List V} (r : Rs K T F [d, e] xs) : ∃ v w, xs = [v, w] ∧ R K T F d v ∧ R K T F e w := by
  obtain ⟨v, t, rfl, h, q⟩ := r
  obtain ⟨w, rfl, k⟩ := rs1 q
  exact ⟨v, w, rfl, h, k⟩

def bAbs : List D → WD
  | [.int i] => fun P _ => P (.int (if i < 0 then -i else i))
  | _ => fun _ _ => False
def bLen : List D → WD
  | [.lst ds] => fun P _ => P (.int ds.length)
  | [.tup ds] => fun P _ => P (.int ds.length)
  | [.str x] => fun P _ => x.length ≤ sizeLine ∧ P (.int x.length)
  | _ => fun _ _ => False
def bInt : List D → WD
  | [.int i] => fun P _ => P (.int i)
  | [.bl k] => fun P _ => P (.int (if k then 1 else 0))
  | [.str x] => fun P _ => ∃ n, PySem.intText? x = some n ∧ x.length ≤ 640 ∧ P (.int n)
  | _ => fun _ _ => False
def bStr : List D → WD
  | [.int i] => fun P _ => i.natAbs.log2 < 1920 ∧ P (.str (Str.ofString (toString i)))
  | _ => fun _ _ => False
def mx3 (i j k : Int) : Int := if (if i < j then j else i) < k then k else (if i < j then j else i)
def bMax : List D → WD
  | [.int i, .int j] => fun P _ => P (.int (if j > i then j else i))
  | [.int i, .int j, .int k] => fun P _ => P (.int (mx3 i j k))
  | [.lst ds] => fun P _ => ∃ ns : List Int, ds = ns.map .int ∧ 0 < ns.length ∧ ∀ m, m ∈ ns → (∀ y, y ∈ ns → y ≤ m) → P (.int m)
  | _ => fun _ _ => False
def bMin : List D → WD
  | [.int i, .int j] => fun P _ => P (.int (if j < i then j else i))
  | [.lst ds] => fun P _ => ∃ ns : List Int, ds = ns.map .int ∧ 0 < ns.length ∧ ∀ m, m ∈ ns → (∀ y, y ∈ ns → m ≤ y) → P (.int m)
  | _ => fun _ _ => False
def allBl : List D → Option (List Bool)
  | [] => some []
  | .bl b :: ds => (allBl ds).map (b :: ·)
  | _ => none
def allI : List D → Option (List Int)
  | [] => some []
  | .int b :: ds => (allI ds).map (b :: ·)
  | _ => none
def bAll : List D → WD
  | [.lst ds] => fun P _ => match allBl ds with | some bs => P (.bl (bs.all id)) | none => False
  | _ => fun _ _ => False
def bAny : List D → WD
  | [.lst ds] => fun P _ => match allBl ds with | some bs => P (.bl (bs.any id)) | none => False
  | _ => fun _ _ => False
def bSum : List D → WD
  | [.lst ds] => fun P _ => match allI ds with | some bs => P (.int bs.sum) | none => False
  | _ => fun _ _ => False
def bTuple : List D → WD
  | [.lst ds] => fun P _ => P (.tup ds)
  | [.tup ds] => fun P _ => P (.tup ds)
  | _ => fun _ _ => False
def bList : List D → WD
  | [.lst ds] => fun P _ => P (.lst ds)
  | [.tup ds] => fun P _ => P (.lst ds)
  | _ => fun _ _ => False

theorem allBl_ok {K : PySem.W.Frag} {T : Tab} {F : Hp} : ∀ {ds : List D} {vs : List V} {bs : List Bool}, Rs K T F ds vs → allBl ds = some bs → vs = bs.map V.bl
  | [], _, _, r, h => by cases r; cases h; rfl
  | .bl b :: ds, _, bs, ⟨v, t, e, a, q⟩, h => by
    subst e
    cases a
    unfold allBl at h
    cases z : allBl ds with
    | none => rw [z] at h; cases h
    | some cs => rw [z] at h; cases h; rw [allBl_ok q z]; rfl
  | .non :: _, _, _, _, h => by cases h
  | .int _ :: _, _, _, _, h => by cases h
  | .str _ :: _, _, _, _, h => by cases h
  | .ty _ :: _, _, _, _, h => by cases h
  | .tup _ :: _, _, _, _, h => by cases h
  | .lst _ :: _, _, _, _, h => by cases h
  | .ins _ _ _ :: _, _, _, _, h => by cases h
theorem allI_ok {K : PySem.W.Frag} {T : Tab} {F : Hp} : ∀ {ds : List D} {vs : List V} {bs : List Int}, Rs K T F ds vs → allI ds = some bs → vs = bs.map V.int
  | [], _, _, r, h => by cases r; cases h; rfl
  | .int b :: ds, _, bs, ⟨v, t, e, a, q⟩, h => by
    subst e
    cases a
    unfold allI at h
    cases z : allI ds with
    | none => rw [z] at h; cases h
    | some cs => rw [z] at h; cases h; rw [allI_ok q z]; rfl
  | .non :: _, _, _, _, h => by cases h
  | .bl _ :: _, _, _, _, h => by cases h
  | .str _ :: _, _, _, _, h => by cases h
  | .ty _ :: _, _, _, _, h => by cases h
  | .tup _ :: _, _, _, _, h => by cases h
  | .lst _ :: _, _, _, _, h => by cases h
  | .ins _ _ _ :: _, _, _, _, h => by cases h
theorem rs_ints {K : PySem.W.Frag} {T : Tab} {F : Hp} : ∀ {ns : List Int} {vs : List V}, Rs K T F (ns.map D.int) vs → vs = ns.map V.int
  | [], _, r => by cases r; rfl
  | n :: ns, _, ⟨v, t, e, a, q⟩ => by subst e; cases a; rw [rs_ints q]; rfl

theorem opn_abs : OpN c (fun xs H Q => ∃ i, xs = [.int i] ∧ Q (.int (if i < 0 then -i else i)) H) bAbs := by
  intro F H σ ρ xs ds P E Q S r w q
  unfold bAbs at w
  split at w
  · obtain ⟨v, rfl, h⟩ := rs1 r
    cases h
    exact ⟨_, rfl, q _ _ F H w S (Same.refl F) rfl⟩
  · exact w.elim
def rLenD (K : PySem.W.Frag) : List V → Hp → VK → Prop := fun xs H Q => (∃ p ys, xs = [.ref p] ∧ (SqL K H p ys ∨ SqT K H p ys) ∧ Q (.int ys.length) H) ∨ (∃ z, xs = [.str z] ∧ z.length ≤ sizeLine ∧ Q (.int z.length) H)
theorem call_lenD : CallR X (.builtin "len") (rLenD X.K) := call_len_seq.or call_len_str
theorem opn_len : OpN c (rLenD c.K) bLen := by
  intro F H σ ρ xs ds P E Q S r w q
  unfold bLen at w
  split at w
  · obtain ⟨v, rfl, a, vs, rfl, s1, r1⟩ := rs1 r
    exact .inl ⟨a, vs, rfl, .inl (S.gr.sub.seq s1), by rw [← r1.length]; exact q _ _ F H w S (Same.refl F) rfl⟩
  · obtain ⟨v, rfl, a, vs, rfl, s1, r1⟩ := rs1 r
    exact .inl ⟨a, vs, rfl, .inr (S.gr.sub.sqT s1), by rw [← r1.length]; exact q _ _ F H w S (Same.refl F) rfl⟩
  · obtain ⟨v, rfl, h⟩ := rs1 r
    cases h
    exact .inr ⟨_, rfl, w.1, q _ _ F H w.2 S (Same.refl F) rfl⟩
  · exact w.elim
def rInt1 : List V → Hp → VK → Prop := fun xs H Q => ((∃ i, xs = [.int i] ∧ Q (.int i) H) ∨ ∃ k, xs = [.bl k] ∧ Q (.int (if k then 1 else 0)) H) ∨ ∃ a n, xs = [V.str a] ∧ PySem.intText? a = some n ∧ a.length ≤ 640 ∧ Q (V.int n) H
theorem call_intD : CallR X (.type "int") rInt1 := call_int1.or call_int_str
theorem opn_str : OpN c (fun xs H Q => ∃ i, xs = [V.int i] ∧ i.natAbs.log2 < 1920 ∧ Q (V.str (Str.ofString (toString i))) H) bStr := by
  intro F H σ ρ xs ds P E Q S r w q
  unfold bStr at w
  split at w
  · obtain ⟨v, rfl, h⟩ := rs1 r
    cases h
    exact ⟨_, rfl, w.1, q _ _ F H w.2 S (Same.refl F) rfl⟩
  · exact w.elim
theorem opn_int : OpN c rInt1 bInt := by
  intro F H σ ρ xs ds P E Q S r w q
  unfold bInt at w
  split at w
  · obtain ⟨v, rfl, h⟩ := rs1 r
    cases h
    exact .inl (.inl ⟨_, rfl, q _ _ F H w S (Same.refl F) rfl⟩)
  · obtain ⟨v, rfl, h⟩ := rs1 r
    cases h
    exact .inl (.inr ⟨_, rfl, q _ _ F H w S (Same.refl F) rfl⟩)
  · obtain ⟨v, rfl, h⟩ := rs1 r
    cases h
    obtain ⟨n, h1, h2, w⟩ := w
    exact .inr ⟨_, n, rfl, h1, h2, q _ _ F H w S (Same.refl F) rfl⟩
  · exact w.elim
def rMax2 (K : PySem.W.Frag) : List V → Hp → VK → Prop := fun xs H Q => (∃ i j, xs = [.int i, .int j] ∧ Q (.int (if j > i then j else i)) H) ∨ rMax K xs H Q
def rMaxA (K : PySem.W.Frag) : List V → Hp → VK → Prop := fun xs H Q => rMax2 K xs H Q ∨ rNuC3 nuMax3 xs H Q
def rMinA (K : PySem.W.Frag) : List V → Hp → VK → Prop := fun xs H Q => (∃ i j, xs = [.int i, .int j] ∧ Q (.int (if j < i then j else i)) H) ∨ rMin K xs H Q
theorem call_maxA (hc : X.calm = true) : CallR X (.builtin "max") (rMaxA X.K) := ((call_max2 hc).or (cr_max hc)).or (call_max3Nu hc)
theorem call_minA (hc : X.calm = true) : CallR X (.builtin "min") (rMinA X.K) := (call_min2 hc).or (cr_min hc)
theorem nu2 (i j : Int) : nuMax2 (.int i) (.int j) = some (.int (if i < j then j else i)) := by
  unfold nuMax2
  rw [show nuLt (.int i) (.int j) = some (decide (i < j)) from rfl]
  by_cases h : i < j <;> simp [h]
theorem nu3 (i j k : Int) : nuMax3 (.int i) (.int j) (.int k) = some (.int (mx3 i j k)) := by
  unfold nuMax3 mx3
  rw [nu2]
  exact nu2 _ _
theorem rs3 {K : PySem.W.Frag} {T : Tab} {F : Hp} {a b d : D} {vs : List V} (h : Rs K T F [a, b, d] vs) : ∃ u v w, vs = [u, v, w] ∧ R K T F a u ∧ R K T F b v ∧ R K T F d w := by
  obtain ⟨v, t, rfl, h, q⟩ := h
  obtain ⟨w, u, rfl, h2, q2⟩ := rs2 q
  exact ⟨v, w, u, rfl, h, h2, q2⟩
theorem opn_max : OpN c (rMaxA c.K) bMax := by
  intro F H σ ρ xs ds P E Q S r w q
  unfold bMax at w
  split at w
  · obtain ⟨v, u, rfl, h, h2⟩ := rs2 r
    cases h; cases h2
    exact .inl (.inl ⟨_, _, rfl, q _ _ F H w S (Same.refl F) rfl⟩)
  · obtain ⟨v, u, z, rfl, h, h2, h3⟩ := rs3 r
    cases h; cases h2; cases h3
    exact .inr ⟨_, _, _, _, rfl, nu3 _ _ _, q _ _ F H w S (Same.refl F) rfl⟩
  · obtain ⟨v, rfl, a, vs, rfl, s1, r1⟩ := rs1 r
    obtain ⟨ns, rfl, h0, w⟩ := w
    rw [rs_ints r1] at s1
    exact .inl (.inr ⟨a, ns, rfl, S.gr.sub.seq s1, h0, fun m h1 h2 => q _ _ F H (w m h1 h2) S (Same.refl F) rfl⟩)
  · exact w.elim
theorem opn_min : OpN c (rMinA c.K) bMin := by
  intro F H σ ρ xs ds P E Q S r w q
  unfold bMin at w
  split at w
  · obtain ⟨v, u, rfl, h, h2⟩ := rs2 r
    cases h; cases h2
    exact .inl ⟨_, _, rfl, q _ _ F H w S (Same.refl F) rfl⟩
  · obtain ⟨v, rfl, a, vs, rfl, s1, r1⟩ := rs1 r
    obtain ⟨ns, rfl, h0, w⟩ := w
    rw [rs_ints r1] at s1
    exact .inr ⟨a, ns, rfl, S.gr.sub.seq s1, h0, fun m h1 h2 => q _ _ F H (w m h1 h2) S (Same.refl F) rfl⟩
  · exact w.elim
theorem opn_all : OpN c (rAll c.K) bAll := by
  intro F H σ ρ xs ds P E Q S r w q
  unfold bAll at w
  split at w
  · obtain ⟨v, rfl, a, vs, rfl, s1, r1⟩ := rs1 r
    split at w
    · rename_i bs e
      rw [allBl_ok r1 e] at s1
      exact ⟨a, bs, rfl, S.gr.sub.seq s1, q _ _ F H w S (Same.refl F) rfl⟩
    · exact w.elim
  · exact w.elim
theorem opn_any : OpN c (rAny c.K) bAny := by
  intro F H σ ρ xs ds P E Q S r w q
  unfold bAny at w
  split at w
  · obtain ⟨v, rfl, a, vs, rfl, s1, r1⟩ := rs1 r
    split at w
    · rename_i bs e
      rw [allBl_ok r1 e] at s1
      exact ⟨a, bs, rfl, S.gr.sub.seq s1, q _ _ F H w S (Same.refl F) rfl⟩
    · exact w.elim
  · exact w.elim
theorem opn_sum : OpN c (rSum c.K) bSum := by
  intro F H σ ρ xs ds P E Q S r w q
  unfold bSum at w
  split at w
  · obtain ⟨v, rfl, a, vs, rfl, s1, r1⟩ := rs1 r
    split at w
    · rename_i bs e
      rw [allI_ok r1 e] at s1
      exact ⟨a, bs, rfl, S.gr.sub.seq s1, q _ _ F H w S (Same.refl F) rfl⟩
    · exact w.elim
  · exact w.elim
theorem opn_tuple : OpN c (fun xs H Q => ∃ p ys, xs = [.ref p] ∧ ((SqL c.K H p ys ∧ ∀ l, H l = none → Q (.ref l) (upd H l (.tup ys))) ∨ (SqT c.K H p ys ∧ Q (.ref p) H))) bTuple := by
  intro F H σ ρ xs ds P E Q S r w q
  unfold bTuple at w
  split at w
  · obtain ⟨v, rfl, a, vs, rfl, s1, r1⟩ := rs1 r
    exact ⟨a, vs, rfl, .inl ⟨S.gr.sub.seq s1, new_tup S r1 w q⟩⟩
  · obtain ⟨v, rfl, a, vs, rfl, s1, r1⟩ := rs1 r
    exact ⟨a, vs, rfl, .inr ⟨S.gr.sub.sqT s1, q _ _ F H w S (Same.refl F) ⟨a, vs, rfl, s1, r1⟩⟩⟩
  · exact w.elim
theorem opn_list : OpN c (fun xs H Q => ∃ p ys, xs = [.ref p] ∧ (SqL c.K H p ys ∨ SqT c.K H p ys) ∧ ∀ l, H l = none → Q (.ref l) (upd H l (.lst ys))) bList := by
  intro F H σ ρ xs ds P E Q S r w q
  unfold bList at w
  split at w
  · obtain ⟨v, rfl, a, vs, rfl, s1, r1⟩ := rs1 r
    exact ⟨a, vs, rfl, .inl (S.gr.sub.seq s1), new_lst S r1 w q⟩
  · obtain ⟨v, rfl, a, vs, rfl, s1, r1⟩ := rs1 r
    exact ⟨a, vs, rfl, .inr (S.gr.sub.sqT s1), new_lst S r1 w q⟩
  · exact w.elim

/-! ### isinstance -/
def tagD : D → String
  | .non => "NoneType" | .bl _ => "bool" | .int _ => "int" | .str _ => "str" | .tup _ => "tuple" | .lst _ => "list" | .ty _ => "" | .ins _ _ _ => "" | .cell _ => "" | .dct _ => ""
def isB (d : D) (t : String) : Bool := tagD d == t || (tagD d == "bool" && t == "int")
/-- isinstance(x, T) for a built-in T -/
def dIsB (s : Sig) (t : String) : D → WD
  | .ty _ => fun _ _ => False
  | .cell _ => fun _ _ => False
  | .dct _ => fun _ _ => False
  | .ins k _ _ => fun P _ => k < s.fld.length ∧ t ∈ ["bool", "int", "str", "list", "tuple", "dict", "set"] ∧ P (.bl false)
  | d => fun P _ => (L2.kitB (tagD d) t = some (isB d t)) ∧ P (.bl (isB d t))
/-- .. for an own class -/
def dIsC (s : Sig) (k : Nat) : D → WD
  | .ty _ => fun _ _ => False
  | .cell _ => fun _ _ => False
  | .dct _ => fun _ _ => False
  | .ins i _ _ => fun P _ => i < s.fld.length ∧ k < s.fld.length ∧ P (.bl (s.sub i k))
  | _ => fun P _ => k < s.fld.length ∧ P (.bl false)
theorem ty_ins (ok : KOk c.K c.T s) {F H : Hp} (hs : Sub F H) {k : Nat} {ns : List Nat} {ds : List D} {v : V} (hk : k < s.fld.length) (r : R c.K c.T F (.ins k ns ds) v) : TyX c.K H v (.ref (c.T.cad k)) := by
  obtain ⟨a, dx, us, rfl, s1, l, r⟩ := r
  exact .base (.ins (hs.ins s1) (ok.cls k hk) (ok.ha k hk) ok.hn ok.htk (ok.hm k hk))
theorem ty_seqL {K : PySem.W.Frag} {H : Hp} {a : Addr} {xs : List V} (h : SqL K H a xs) : TyX K H (.ref a) (.type "list") := by
  rcases h with (h | ⟨o, h⟩) | ⟨o, its, n, hk, hc, _⟩
  · exact .base (.lst h)
  · exact .base (.frz h)
  · exact .kList hk hc
theorem ty_seqT {K : PySem.W.Frag} {H : Hp} {a : Addr} {xs : List V} (h : SqT K H a xs) : TyX K H (.ref a) (.type "tuple") := by
  rcases h with (h | ⟨o, h⟩) | ⟨o, its, n, hk, hc, _⟩
  · exact .base (.tup h)
  · exact .fTuple h
  · exact .kTuple hk hc
theorem op1_isB (ok : KOk c.K c.T s) {t : String} : Op1 c (fun x H Q => rIsi c.K [x, .ty t] H Q) (dIsB s t) := by
  intro F H σ ρ x dx P E Q S rx w q
  have fin : ∀ {b : Bool}, P (.bl b) → Q (.bl b) H := fun h => q _ _ F H h S (Same.refl F) rfl
  cases dx with
  | ty n => exact False.elim w
  | cell n => exact False.elim w
  | dct n => exact False.elim w
  | ins k ns vs => exact ⟨x, _, _, _, false, rfl, .ty t, ty_ins ok S.gr.sub w.1 rx, ok.kit1 k w.1 t w.2.1, fin w.2.2⟩
  | non => cases rx; exact ⟨_, _, _, _, _, rfl, .ty t, .base .non, kit_ty w.1, fin w.2⟩
  | bl b => cases rx; exact ⟨_, _, _, _, _, rfl, .ty t, .base (.bl b), kit_ty w.1, fin w.2⟩
  | int b => cases rx; exact ⟨_, _, _, _, _, rfl, .ty t, .base (.int b), kit_ty w.1, fin w.2⟩
  | str b => cases rx; exact ⟨_, _, _, _, _, rfl, .ty t, .base (.str b), kit_ty w.1, fin w.2⟩
  | tup ds => obtain ⟨a, vs, rfl, s1, r1⟩ := rx; exact ⟨_, _, _, _, _, rfl, .ty t, ty_seqT (S.gr.sub.sqT s1), kit_ty w.1, fin w.2⟩
  | lst ds => obtain ⟨a, vs, rfl, s1, r1⟩ := rx; exact ⟨_, _, _, _, _, rfl, .ty t, ty_seqL (S.gr.sub.seq s1), kit_ty w.1, fin w.2⟩
theorem op1_isC (ok : KOk c.K c.T s) {k : Nat} : Op1 c (fun x H Q => rIsi c.K [x, .ref (c.T.cad k)] H Q) (dIsC s k) := by
  intro F H σ ρ x dx P E Q S rx w q
  have fin : ∀ {b : Bool}, P (.bl b) → Q (.bl b) H := fun h => q _ _ F H h S (Same.refl F) rfl
  cases dx with
  | ty n => exact False.elim w
  | cell n => exact False.elim w
  | dct n => exact False.elim w
  | ins i ns vs => exact ⟨x, _, _, _, _, rfl, .own _, ty_ins ok S.gr.sub w.1 rx, ok.kit i k w.1 w.2.1, fin w.2.2⟩
  | non => cases rx; exact ⟨_, _, _, _, _, rfl, .own _, .base .non, ok.kit0 k w.1 _ (by decide), fin w.2⟩
  | bl b => cases rx; exact ⟨_, _, _, _, _, rfl, .own _, .base (.bl b), ok.kit0 k w.1 _ (by decide), fin w.2⟩
  | int b => cases rx; exact ⟨_, _, _, _, _, rfl, .own _, .base (.int b), ok.kit0 k w.1 _ (by decide), fin w.2⟩
  | str b => cases rx; exact ⟨_, _, _, _, _, rfl, .own _, .base (.str b), ok.kit0 k w.1 _ (by decide), fin w.2⟩
  | tup ds => obtain ⟨a, vs, rfl, s1, r1⟩ := rx; exact ⟨_, _, _, _, _, rfl, .own _, ty_seqT (S.gr.sub.sqT s1), ok.kit0 k w.1 _ (by decide), fin w.2⟩
  | lst ds => obtain ⟨a, vs, rfl, s1, r1⟩ := rx; exact ⟨_, _, _, _, _, rfl, .own _, ty_seqL (S.gr.sub.seq s1), ok.kit0 k w.1 _ (by decide), fin w.2⟩
/-- isinstance(e, T) -/
theorem lv_isB {x y : Str} {p p2 pos : Pos} {e : Expr} {wa : WE} {t : String} (hK : X.K = c.K) (ok : KOk c.K c.T s) (hx : x = "isinstance") (hg : Gl X x) (hm : X.mg x = none) (hgy : Gl X y) (hmy : X.mg y = none) (hvy : bootBuiltins y = some (.type t)) (hny : y ≠ "__name__") (hdy : (y == ("__debug__" : Str)) = false) (ha : PE X e (liftE c wa))
    (h1 : starEach [e, .Name y p2] X.env = (false, eval e X.env) :: starEach [.Name y p2] X.env) : PE X (.Call (.Name x p) [e, .Name y p2] [] pos) (liftE c (w1 (dIsB s t) wa)) := by
  subst hx
  refine pe_weak (pe_callB call_isi hg hm (by decide +kernel) (pa_cons ha (pa_cons (pe_bltn (v := .ty t) hgy hmy hvy rfl hny hdy) pa_nil) h1) (by decide) (by decide) h1 rfl) fun σ H Q ⟨F, ρ, P, E, S, w, q, x⟩ => ?_
  exact ⟨F, ρ, _, E, S, w, fun d v F1 H1 w1 S1 e1 r1 => hK ▸ op1_isB ok F1 H1 σ ρ v d P E Q S1 r1 w1 (q.up e1), x⟩
theorem lv_isC {x y : Str} {p p2 pos : Pos} {e : Expr} {wa : WE} {k : Nat} (hK : X.K = c.K) (ok : KOk c.K c.T s) (hx : x = "isinstance") (hg : Gl X x) (hm : X.mg x = none) (hgy : Gl X y) (hmy : X.mg y = some (.ref (c.T.cad k))) (hdy : (y == ("__debug__" : Str)) = false) (ha : PE X e (liftE c wa))
    (h1 : starEach [e, .Name y p2] X.env = (false, eval e X.env) :: starEach [.Name y p2] X.env) : PE X (.Call (.Name x p) [e, .Name y p2] [] pos) (liftE c (w1 (dIsC s k) wa)) := by
  subst hx
  refine pe_weak (pe_callB call_isi hg hm (by decide +kernel) (pa_cons ha (pa_cons (pe_glob (v := .ref (c.T.cad k)) hgy hmy rfl hdy) pa_nil) h1) (by decide) (by decide) h1 rfl) fun σ H Q ⟨F, ρ, P, E, S, w, q, x⟩ => ?_
  exact ⟨F, ρ, _, E, S, w, fun d v F1 H1 w1 S1 e1 r1 => hK ▸ op1_isC ok F1 H1 σ ρ v d P E Q S1 r1 w1 (q.up e1), x⟩
end
end Tr

namespace Tr
open PySem PySem.Spec PyProof.Rows L2

/-! ### tests -/
def dTru : D → (Bool → Prop) → Prop
  | .non, P => P false
  | .bl b, P => P b
  | .int i, P => P (i != 0)
  | .str x, P => x.length ≤ sizeLine ∧ P ((x.length : Int) != 0)
  | .lst ds, P => P (!ds.isEmpty)
  | .tup ds, P => P (!ds.isEmpty)
  | _, _ => False
def isTru : D → (Bool → Prop) → Prop
  | .bl b, P => P b
  | _, _ => False
def wTru (w : WE) : WT := fun ρ P E => w ρ (fun d => dTru d P) E
def wTst (w : WE) : WT := fun ρ P E => w ρ (fun d => isTru d P) E
def wAnd (t u : WT) : WT := fun ρ P E => t ρ (fun b => if b = true then u ρ P E else P false) E
def wOr (t u : WT) : WT := fun ρ P E => t ρ (fun b => if b = true then P true else u ρ P E) E
def wNot (t : WT) : WT := fun ρ P E => t ρ (fun b => P (!b)) E
def wIf (t : WT) (a b : WE) : WE := fun ρ P E => t ρ (fun k => if k = true then a ρ P E else b ρ P E) E
def wAndV (a b : WE) : WE := fun ρ P E => a ρ (fun d => isTru d fun k => if k = true then b ρ P E else P (.bl false)) E
def wOrV (a b : WE) : WE := fun ρ P E => a ρ (fun d => isTru d fun k => if k = true then P (.bl true) else b ρ P E) E
def wNotV (a : WE) : WE := fun ρ P E => a ρ (fun d => isTru d fun k => P (.bl (!k))) E
def wLinks : List ((D → D → WD) × WE) → D → WE
  | [], _ => fun _ _ _ => False
  | [l], x => fun ρ P E => l.2 ρ (fun y => l.1 x y (fun r => isTru r fun k => P (.bl k)) E) E
  | l :: m :: r, x => fun ρ P E => l.2 ρ (fun y => l.1 x y (fun d => isTru d fun k => if k = true then wLinks (m :: r) y ρ P E else P (.bl false)) E) E
def wChain (a : WE) (ls : List ((D → D → WD) × WE)) : WE := fun ρ P E => a ρ (fun x => wLinks ls x ρ P E) E

section
variable {c : Ct} {X : Cx} {s : Sig}
theorem isTru_bl {d : D} {P : Bool → Prop} (h : isTru d P) : ∃ b, d = .bl b ∧ P b := by
  cases d with
  | bl b => exact ⟨b, rfl, h⟩
  | _ => exact False.elim h
theorem tru_of {F H : Hp} {K : PySem.W.Frag} {T : Tab} (hs : Sub F H) {d : D} {v : V} {P : Bool → Prop} (r : R K T F d v) (h : dTru d P) : ∃ k, TruV K v H k ∧ P k := by
  cases d with
  | non => cases r; exact ⟨false, rfl, h⟩
  | bl b => cases r; exact ⟨b, rfl, h⟩
  | int i => cases r; exact ⟨_, rfl, h⟩
  | str x => cases r; exact ⟨_, ⟨h.1, rfl⟩, h.2⟩
  | ty n => exact h.elim
  | ins k ns vs => exact h.elim
  | cell i => exact h.elim
  | dct i => exact h.elim
  | lst ds =>
    obtain ⟨a, vs, rfl, s1, r1⟩ := r
    refine ⟨_, .inl ⟨vs, hs.seq s1, rfl⟩, ?_⟩
    have e : vs.isEmpty = ds.isEmpty := by
      have l := r1.length
      cases ds <;> cases vs <;> first | rfl | (simp at l)
    rw [e]; exact h
  | tup ds =>
    obtain ⟨a, vs, rfl, s1, r1⟩ := r
    refine ⟨_, .inr (.inl ⟨vs, hs.sqT s1, rfl⟩), ?_⟩
    have e : vs.isEmpty = ds.isEmpty := by
      have l := r1.length
      cases ds <;> cases vs <;> first | rfl | (simp at l)
    rw [e]; exact h
theorem lt_val {a : Expr} {w : WE} (hK : X.K = c.K) (ha : PE X a (liftE c w)) (he : ∀ whole, isTrue a X.env whole = (do let v ← whole; standAt a.pos; holding [v] (truthy v))) : PT X a (liftT c (wTru w)) := by
  refine pt_weak (pt_truth ha he) fun σ H Q ⟨F, ρ, P, E, S, w, q, x⟩ => ⟨F, ρ, _, E, S, w, fun d v F1 H1 w1 S1 e1 r1 => ?_, x⟩
  obtain ⟨k, h1, h2⟩ := tru_of S1.gr.sub r1 w1
  exact ⟨k, hK ▸ h1, q k F1 H1 h2 S1 e1⟩
theorem tst {t : TE} {w : WE} (h : ∀ σ H Q, liftE c w σ H Q → t σ H Q) (σ : L2.St) (H : Hp) (Q : Bool → Hp → Prop) : liftT c (wTst w) σ H Q → tTest t σ H Q := by
  rintro ⟨F, ρ, P, E, S, w1, q, x⟩
  refine h σ H _ ⟨F, ρ, _, E, S, w1, fun d v F1 H1 w2 S1 e1 r1 => ?_, x⟩
  obtain ⟨b, rfl, hb⟩ := isTru_bl w2
  cases r1
  exact ⟨b, rfl, q b F1 H1 hb S1 e1⟩
theorem lt_cmp {a b : Expr} {wa wb : WE} {pos : Pos} {op : CmpOp} {r : R2} {f : D → D → WD} (ho : OpR X (compareOp op) r) (h : Op2 c r f) (ha : PE X a (liftE c wa)) (hb : PE X b (liftE c wb)) (hm : behindInMarks op b = false) : PT X (.Compare a [op] [b] pos) (liftT c (wTst (w2 f wa wb))) :=
  pt_weak (pt_cmpR ho ha hb hm) (tst (two h))
theorem lw_one {op : BoolOp} {a : Expr} {pos : Pos} {t : WT} (h : PT X a (liftT c t)) : PW X (.BoolOp op [a] pos) (liftT c t) := by
  cases op with
  | And => exact pw_and1 h
  | Or => exact pw_or1 h
theorem pw_weak {e : Expr} {t t' : TT} (h : PW X e t) (hw : ∀ σ H Q, t' σ H Q → t σ H Q) : PW X e t' := ⟨fun wh pins s σ H Q I q => h.run wh pins s σ H Q I (hw σ H Q q)⟩
theorem lw_and {a b : Expr} {rest : List Expr} {pos : Pos} {t u : WT} (ha : PT X a (liftT c t)) (hb : PW X (.BoolOp .And (b :: rest) pos) (liftT c u)) : PW X (.BoolOp .And (a :: b :: rest) pos) (liftT c (wAnd t u)) := by
  refine pw_weak (pw_and ha hb) fun σ H Q ⟨F, ρ, P, E, S, w, q, x⟩ => ⟨F, ρ, _, E, S, w, fun k F1 H1 w1 S1 e1 => ?_, x⟩
  cases k with
  | true => exact ⟨F1, ρ, P, E, S1, w1, q.up e1, x.up e1⟩
  | false => exact q false F1 H1 w1 S1 e1
theorem lw_or {a b : Expr} {rest : List Expr} {pos : Pos} {t u : WT} (ha : PT X a (liftT c t)) (hb : PW X (.BoolOp .Or (b :: rest) pos) (liftT c u)) : PW X (.BoolOp .Or (a :: b :: rest) pos) (liftT c (wOr t u)) := by
  refine pw_weak (pw_or ha hb) fun σ H Q ⟨F, ρ, P, E, S, w, q, x⟩ => ⟨F, ρ, _, E, S, w, fun k F1 H1 w1 S1 e1 => ?_, x⟩
  cases k with
  | false => exact ⟨F1, ρ, P, E, S1, w1, q.up e1, x.up e1⟩
  | true => exact q true F1 H1 w1 S1 e1
theorem lt_not {a : Expr} {pos : Pos} {t : WT} (ha : PT X a (liftT c t)) : PT X (.UnaryOp .Not a pos) (liftT c (wNot t)) :=
  pt_weak (pt_not ha) fun σ H Q ⟨F, ρ, P, E, S, w, q, x⟩ => ⟨F, ρ, _, E, S, w, fun k F1 H1 w1 S1 e1 => q _ F1 H1 w1 S1 e1, x⟩
theorem lv_if {t a b : Expr} {pos : Pos} {wt : WT} {wa wb : WE} (ht : PT X t (liftT c wt)) (ha : PE X a (liftE c wa)) (hb : PE X b (liftE c wb)) : PE X (.IfExp t a b pos) (liftE c (wIf wt wa wb)) := by
  refine pe_weak (pe_ifExp ht ha hb) fun σ H Q ⟨F, ρ, P, E, S, w, q, x⟩ => ⟨F, ρ, _, E, S, w, fun k F1 H1 w1 S1 e1 => ?_, x⟩
  cases k with
  | true => exact ⟨F1, ρ, P, E, S1, w1, q.up e1, x.up e1⟩
  | false => exact ⟨F1, ρ, P, E, S1, w1, q.up e1, x.up e1⟩
theorem lv_one {op : BoolOp} {a : Expr} {pos : Pos} {w : WE} (h : PE X a (liftE c w)) : PE X (.BoolOp op [a] pos) (liftE c w) := pe_one h
theorem lv_and {a b : Expr} {rest : List Expr} {pos : Pos} {wa wb : WE} (ha : PE X a (liftE c wa)) (hb : PE X (.BoolOp .And (b :: rest) pos) (liftE c wb)) : PE X (.BoolOp .And (a :: b :: rest) pos) (liftE c (wAndV wa wb)) := by
  refine pe_weak (pe_and ha hb) fun σ H Q ⟨F, ρ, P, E, S, w, q, x⟩ => ⟨F, ρ, _, E, S, w, fun d v F1 H1 w1 S1 e1 r1 => ?_, x⟩
  obtain ⟨k, rfl, w1⟩ := isTru_bl w1
  cases r1
  cases k with
  | true => exact ⟨true, rfl, F1, ρ, P, E, S1, w1, q.up e1, x.up e1⟩
  | false => exact ⟨false, rfl, q _ _ F1 H1 w1 S1 e1 rfl⟩
theorem lv_or {a b : Expr} {rest : List Expr} {pos : Pos} {wa wb : WE} (ha : PE X a (liftE c wa)) (hb : PE X (.BoolOp .Or (b :: rest) pos) (liftE c wb)) : PE X (.BoolOp .Or (a :: b :: rest) pos) (liftE c (wOrV wa wb)) := by
  refine pe_weak (pe_or ha hb) fun σ H Q ⟨F, ρ, P, E, S, w, q, x⟩ => ⟨F, ρ, _, E, S, w, fun d v F1 H1 w1 S1 e1 r1 => ?_, x⟩
  obtain ⟨k, rfl, w1⟩ := isTru_bl w1
  cases r1
  cases k with
  | false => exact ⟨false, rfl, F1, ρ, P, E, S1, w1, q.up e1, x.up e1⟩
  | true => exact ⟨true, rfl, q _ _ F1 H1 w1 S1 e1 rfl⟩
theorem lv_not {a : Expr} {pos : Pos} {wa : WE} (ha : PE X a (liftE c wa)) : PE X (.UnaryOp .Not a pos) (liftE c (wNotV wa)) := by
  refine pe_weak (pe_not ha) fun σ H Q ⟨F, ρ, P, E, S, w, q, x⟩ => ⟨F, ρ, _, E, S, w, fun d v F1 H1 w1 S1 e1 r1 => ?_, x⟩
  obtain ⟨k, rfl, w1⟩ := isTru_bl w1
  cases r1
  exact ⟨k, rfl, q _ _ F1 H1 w1 S1 e1 rfl⟩

/-! ### chains -/
structure Lk (X : Cx) (c : Ct) (op : CmpOp) (e : Expr) (l : (D → D → WD) × WE) : Prop where
  ex : ∃ r, OpR X (compareOp op) r ∧ Op2 c r l.1
  pe : PE X e (liftE c l.2)
inductive Lks (X : Cx) (c : Ct) : List CmpOp → List Expr → List ((D → D → WD) × WE) → Prop
  | nil : Lks X c [] [] []
  | cons {op e l ops es ls} : Lk X c op e l → Lks X c ops es ls → Lks X c (op :: ops) (e :: es) (l :: ls)
theorem links_run : ∀ {ls : List ((D → D → WD) × WE)} {ops : List CmpOp} {es : List Expr}, Lks X c ops es ls → ∀ {pos : Pos} {pins : List (Addr × Obj)} {s : Shared} {σ : L2.St} {H : Hp} {Q : VK} {F : Hp} {ρ : List Slot} {P : D → Prop} {E : Exc → Prop} {a : Value} {x : V} {d : D},
    Inv X pins σ H s → RelV x a → c.S F H σ ρ → R c.K c.T F d x → wLinks ls d ρ P E → c.qV F σ ρ P Q → c.qX F σ ρ E → wpAny (model X.prog X.w) X.A (compareChain pos a ops (evalEach es X.env)) (EP X pins σ Q) X.xe s
  | [], _, _, _, pos, pins, s, σ, H, Q, F, ρ, P, E, a, x, d, I, ra, S, r, w, q, qx => w.elim
  | [l], _, _, .cons (op := op) (e := e) k .nil, pos, pins, s, σ, H, Q, F, ρ, P, E, a, x, d, I, ra, S, r, w, q, qx => by
    obtain ⟨⟨r0, ho, h2⟩, he⟩ := k
    show wpAny _ _ (compareChain pos a [op] [eval e X.env]) _ _ s
    refine chain_last (thn (he.run pins s σ H (fun y H1 => r0 x y H1 Q) I ⟨F, ρ, _, E, S, w, fun d2 v2 F2 H2 w2 S2 e2 r2 => h2 F2 H2 σ ρ x v2 d d2 _ E Q S2 (r.mono e2) r2 w2 fun d3 v3 F3 H3 w3 S3 e3 r3 => ?_, qx⟩) fun u s2 ⟨y, H2, I2, ry, q2⟩ => ho pins s2 σ H2 x y a u Q I2 ra ry q2)
    obtain ⟨b, rfl, hb⟩ := isTru_bl w3
    exact q _ _ F3 H3 hb S3 (e2.trans e3) r3
  | l :: m :: ls, _, _, .cons (op := op) (e := e) k (.cons (op := op') (e := e') (ops := ops') (es := es') k' ks), pos, pins, s, σ, H, Q, F, ρ, P, E, a, x, d, I, ra, S, r, w, q, qx => by
    obtain ⟨⟨r0, ho, h2⟩, he⟩ := k
    show wpAny _ _ (compareChain pos a (op :: op' :: ops') (eval e X.env :: eval e' X.env :: evalEach es' X.env)) _ _ s
    refine chain_link (thn (he.run pins s σ H (fun y H1 => r0 x y H1 fun z H3 => ∃ k, z = .bl k ∧ if k = true then (∃ d2 F3, R c.K c.T F3 d2 y ∧ c.S F3 H3 σ ρ ∧ wLinks (m :: ls) d2 ρ P E ∧ Same F F3) else Q (.bl false) H3) I ⟨F, ρ, _, E, S, w, fun d2 v2 F2 H2 w2 S2 e2 r2 => h2 F2 H2 σ ρ x v2 d d2 _ E _ S2 (r.mono e2) r2 w2 fun d3 v3 F3 H3 w3 S3 e3 r3 => ?_, qx⟩) fun u s2 ⟨y, H2, I2, ry, q2⟩ => thn (ho pins s2 σ H2 x y a u _ I2 ra ry q2) fun b s3 ⟨z, H3, I3, rz, k3, ez, q3⟩ => ?_)
    · obtain ⟨b, rfl, hb⟩ := isTru_bl w3
      cases r3
      refine ⟨b, rfl, ?_⟩
      cases b with
      | true => exact ⟨d2, F3, r2.mono e3, S3, hb, e2.trans e3⟩
      | false => exact q _ _ F3 H3 hb S3 (e2.trans e3) rfl
    · subst ez
      cases rz
      refine wpAny_truthy_bool ?_
      cases k3 with
      | false => exact ite_ff ⟨.bl false, H3, I3, rfl, q3⟩
      | true =>
        obtain ⟨d2, F3, rd, S3, w3, eF⟩ := q3
        exact ite_tt (links_run (.cons k' ks) I3 ry S3 rd w3 (q.up eF) (qx.up eF))
theorem lv_chain {a : Expr} {wa : WE} {op op' : CmpOp} {ops : List CmpOp} {e e' : Expr} {es : List Expr} {ls : List ((D → D → WD) × WE)} {pos : Pos} (ha : PE X a (liftE c wa)) (hl : Lks X c (op :: op' :: ops) (e :: e' :: es) ls) (hm : lastMarks (op :: op' :: ops) (e :: e' :: es) = false) :
    PE X (.Compare a (op :: op' :: ops) (e :: e' :: es) pos) (liftE c (wChain wa ls)) := by
  refine ⟨fun pins s σ H Q I ⟨F, ρ, P, E, S, w, q, x⟩ => ?_⟩
  refine Compare_chain (thn (ha.run pins s σ H (fun v H1 => ∃ d F1, R c.K c.T F1 d v ∧ c.S F1 H1 σ ρ ∧ wLinks ls d ρ P E ∧ Same F F1) I ⟨F, ρ, _, E, S, w, fun d v F1 H1 w1 S1 e1 r1 => ⟨d, F1, r1, S1, w1, e1⟩, x⟩) fun v s1 ⟨y, H1, I1, r1, d, F1, rd, S1, w1, e1⟩ => ?_) hm
  exact links_run hl I1 r1 S1 rd w1 (q.up e1) (x.up e1)
/-- a bool's test, of an expression whose reading is a bool -/
theorem lt_bl {a : Expr} {w : WE} (ha : PE X a (liftE c w)) (he : ∀ whole, isTrue a X.env whole = (do let v ← whole; standAt a.pos; holding [v] (truthy v))) : PT X a (liftT c (wTst w)) :=
  pt_weak (pt_val ha he) (tst fun _ _ _ h => h)
theorem links_test : ∀ {ls : List ((D → D → WD) × WE)} {ops : List CmpOp} {es : List Expr}, Lks X c ops es ls → ∀ {pos : Pos} {pins : List (Addr × Obj)} {s : Shared} {σ : L2.St} {H : Hp} {Q : Bool → Hp → Prop} {F : Hp} {ρ : List Slot} {P : Bool → Prop} {E : Exc → Prop} {a : Value} {x : V} {d : D},
    Inv X pins σ H s → RelV x a → c.S F H σ ρ → R c.K c.T F d x → wLinks ls d ρ (fun z => isTru z P) E → c.qB F σ ρ P Q → c.qX F σ ρ E → wpAny (model X.prog X.w) X.A (testChain pos a ops (evalEach es X.env)) (TP X pins σ Q) X.xe s
  | [], _, _, _, pos, pins, s, σ, H, Q, F, ρ, P, E, a, x, d, I, ra, S, r, w, q, qx => w.elim
  | [l], _, _, .cons (op := op) (e := e) k .nil, pos, pins, s, σ, H, Q, F, ρ, P, E, a, x, d, I, ra, S, r, w, q, qx => by
    obtain ⟨⟨r0, ho, h2⟩, he⟩ := k
    show wpAny _ _ (testChain pos a [op] [eval e X.env]) _ _ s
    refine test_last (thn (he.run pins s σ H (fun y H1 => r0 x y H1 fun z H3 => ∃ k, z = .bl k ∧ Q k H3) I ⟨F, ρ, _, E, S, w, fun d2 v2 F2 H2 w2 S2 e2 r2 => h2 F2 H2 σ ρ x v2 d d2 _ E _ S2 (r.mono e2) r2 w2 fun d3 v3 F3 H3 w3 S3 e3 r3 => ?_, qx⟩) fun u s2 ⟨y, H2, I2, ry, q2⟩ => thn (ho pins s2 σ H2 x y a u _ I2 ra ry q2) fun b s3 ⟨z, H3, I3, rz, k3, ez, q3⟩ => ?_)
    · obtain ⟨b, rfl, hb⟩ := isTru_bl w3
      cases r3
      exact ⟨b, rfl, q b F3 H3 hb S3 (e2.trans e3)⟩
    · subst ez
      cases rz
      exact wpAny_truthy_bool ⟨H3, I3, q3⟩
  | l :: m :: ls, _, _, .cons (op := op) (e := e) k (.cons (op := op') (e := e') (ops := ops') (es := es') k' ks), pos, pins, s, σ, H, Q, F, ρ, P, E, a, x, d, I, ra, S, r, w, q, qx => by
    obtain ⟨⟨r0, ho, h2⟩, he⟩ := k
    show wpAny _ _ (testChain pos a (op :: op' :: ops') (eval e X.env :: eval e' X.env :: evalEach es' X.env)) _ _ s
    refine test_link (thn (he.run pins s σ H (fun y H1 => r0 x y H1 fun z H3 => ∃ k, z = .bl k ∧ if k = true then (∃ d2 F3, R c.K c.T F3 d2 y ∧ c.S F3 H3 σ ρ ∧ wLinks (m :: ls) d2 ρ (fun z => isTru z P) E ∧ Same F F3) else Q false H3) I ⟨F, ρ, _, E, S, w, fun d2 v2 F2 H2 w2 S2 e2 r2 => h2 F2 H2 σ ρ x v2 d d2 _ E _ S2 (r.mono e2) r2 w2 fun d3 v3 F3 H3 w3 S3 e3 r3 => ?_, qx⟩) fun u s2 ⟨y, H2, I2, ry, q2⟩ => thn (ho pins s2 σ H2 x y a u _ I2 ra ry q2) fun b s3 ⟨z, H3, I3, rz, k3, ez, q3⟩ => ?_)
    · obtain ⟨b, rfl, hb⟩ := isTru_bl w3
      cases r3
      refine ⟨b, rfl, ?_⟩
      cases b with
      | true => exact ⟨d2, F3, r2.mono e3, S3, hb, e2.trans e3⟩
      | false => exact q false F3 H3 hb S3 (e2.trans e3)
    · subst ez
      cases rz
      refine wpAny_truthy_bool ?_
      cases k3 with
      | false => exact ite_ff ⟨H3, I3, q3⟩
      | true =>
        obtain ⟨d2, F3, rd, S3, w3, eF⟩ := q3
        exact ite_tt (links_test (.cons k' ks) I3 ry S3 rd w3 (q.up eF) (qx.up eF))
theorem lt_chain {a : Expr} {wa : WE} {op op' : CmpOp} {ops : List CmpOp} {e e' : Expr} {es : List Expr} {ls : List ((D → D → WD) × WE)} {pos : Pos} (ha : PE X a (liftE c wa)) (hl : Lks X c (op :: op' :: ops) (e :: e' :: es) ls) (hm : lastMarks (op :: op' :: ops) (e :: e' :: es) = false) :
    PT X (.Compare a (op :: op' :: ops) (e :: e' :: es) pos) (liftT c (wTst (wChain wa ls))) := by
  refine ⟨fun pins s σ H Q I ⟨F, ρ, P, E, S, w, q, x⟩ => ?_⟩
  refine isTrue_chain (thn (ha.run pins s σ H (fun v H1 => ∃ d F1, R c.K c.T F1 d v ∧ c.S F1 H1 σ ρ ∧ wLinks ls d ρ (fun z => isTru z P) E ∧ Same F F1) I ⟨F, ρ, _, E, S, w, fun d v F1 H1 w1 S1 e1 r1 => ⟨d, F1, r1, S1, w1, e1⟩, x⟩) fun v s1 ⟨y, H1, I1, r1, d, F1, rd, S1, w1, e1⟩ => ?_) hm
  exact links_test hl I1 r1 S1 rd w1 (q.up e1) (x.up e1)
end
end Tr

namespace Tr
open PySem PySem.Spec PyProof.Rows L2

/-! ### statements -/
structure EndsD where
  nx : List Slot → Prop
  rt : D → Prop
  bk : List Slot → Prop
  ct : List Slot → Prop
  xe : Exc → List Slot → Prop
  ro : List D → Prop := fun _ => False
abbrev WS := EndsD → List Slot → Prop
structure SEnd (c : Ct) (F : Hp) (A : EndsD) (D0 : Ends) : Prop where
  nx : ∀ ρ σ F' H, A.nx ρ → c.S F' H σ ρ → Same F F' → D0.nx σ H
  rt : ∀ d v F' H, A.rt d → Gr c.K c.T c.F0 c.B F' H → Same F F' → R c.K c.T F' d v → D0.rt v H
  bk : ∀ ρ σ F' H, A.bk ρ → c.S F' H σ ρ → Same F F' → D0.bk σ H
  ct : ∀ ρ σ F' H, A.ct ρ → c.S F' H σ ρ → Same F F' → D0.ct σ H
  xe : ∀ x ρ cls dx σ F' H, A.xe x ρ → c.S F' H σ ρ → Same F F' → RX c.K c.T F' H x cls dx → c.W cls dx σ H
  ro : ∀ ds a vs F' H, A.ro ds → Gr c.K c.T c.F0 c.B F' H → Same F F' → H a = some (.lst vs) → F' a = none → c.B a = none → Rs c.K c.T F' ds vs → D0.rt (.ref a) H
theorem SEnd.up {c : Ct} {F F' : Hp} {A : EndsD} {D0 : Ends} (h : SEnd c F A D0) (e : Same F F') : SEnd c F' A D0 :=
  ⟨fun ρ σ F1 H a b d => h.nx ρ σ F1 H a b (e.trans d), fun d v F1 H a b q r => h.rt d v F1 H a b (e.trans q) r, fun ρ σ F1 H a b d => h.bk ρ σ F1 H a b (e.trans d), fun ρ σ F1 H a b d => h.ct ρ σ F1 H a b (e.trans d),
    fun x ρ cls dx σ F1 H a b q r => h.xe x ρ cls dx σ F1 H a b (e.trans q) r, fun ds a vs F1 H x b q => h.ro ds a vs F1 H x b (e.trans q)⟩
theorem SEnd.qX {c : Ct} {F : Hp} {A : EndsD} {D0 : Ends} (h : SEnd c F A D0) (σ : L2.St) (ρ : List Slot) : c.qX F σ ρ (fun x => A.xe x ρ) := fun x cls dx F' H' a b e r => h.xe x ρ cls dx σ F' H' a b e r
def liftS (c : Ct) (w : WS) : TS := fun D0 σ H => ∃ F ρ A, c.S F H σ ρ ∧ w A ρ ∧ SEnd c F A D0

/-- an assignment's target -/
abbrev WG := D → List Slot → (List Slot → Prop) → Prop
def wipeR (ρ : List Slot) : List Nat → List Slot
  | [] => ρ
  | v :: vs => (wipeR ρ vs).set v .emp
/-- the slots at sl alone differ -/
def Only (sl : List Nat) (σ σ' : L2.St) (ρ ρ' : List Slot) : Prop := ∀ vs : List Nat, (∀ i ∈ sl, i ∈ vs) → wipe σ' vs = wipe σ vs ∧ wipeR ρ' vs = wipeR ρ vs
theorem Only.refl (sl : List Nat) (σ : L2.St) (ρ : List Slot) : Only sl σ σ ρ ρ := fun _ _ => ⟨rfl, rfl⟩
theorem wipe_out {σ : L2.St} {i : Nat} {o : Option V} : ∀ {vs : List Nat}, i ∉ vs → wipe (σ.set i o) vs = (wipe σ vs).set i o
  | [], _ => rfl
  | a :: r, hn => by
    unfold wipe
    rw [wipe_out fun z => hn (List.mem_cons_of_mem _ z)]
    exact List.set_comm _ _ fun z => hn (z ▸ List.mem_cons_self)
theorem wipe_set {σ : L2.St} {i : Nat} {o : Option V} : ∀ {vs : List Nat}, i ∈ vs → wipe (σ.set i o) vs = wipe σ vs
  | [], h => nomatch h
  | v :: vs, h => by
    unfold wipe
    by_cases q : i ∈ vs
    · rw [wipe_set q]
    · have e : i = v := (List.mem_cons.mp h).elim id fun z => absurd z q
      subst e
      rw [wipe_out q, List.set_set]
theorem wipeR_out {ρ : List Slot} {i : Nat} {o : Slot} : ∀ {vs : List Nat}, i ∉ vs → wipeR (ρ.set i o) vs = (wipeR ρ vs).set i o
  | [], _ => rfl
  | a :: r, hn => by
    unfold wipeR
    rw [wipeR_out fun z => hn (List.mem_cons_of_mem _ z)]
    exact List.set_comm _ _ fun z => hn (z ▸ List.mem_cons_self)
theorem wipeR_set {ρ : List Slot} {i : Nat} {o : Slot} : ∀ {vs : List Nat}, i ∈ vs → wipeR (ρ.set i o) vs = wipeR ρ vs
  | [], h => nomatch h
  | v :: vs, h => by
    unfold wipeR
    by_cases q : i ∈ vs
    · rw [wipeR_set q]
    · have e : i = v := (List.mem_cons.mp h).elim id fun z => absurd z q
      subst e
      rw [wipeR_out q, List.set_set]
theorem wipe_one : ∀ {vs : List Nat} {σ : L2.St} {i : Nat}, i ∈ vs → (wipe σ vs).set i none = wipe σ vs
  | [], _, _, h => nomatch h
  | a :: r, σ, i, h => by
    unfold wipe
    by_cases q : i = a
    · subst q; rw [List.set_set]
    · rw [List.set_comm _ _ (Ne.symm q), wipe_one ((List.mem_cons.mp h).elim (fun z => absurd z q) id)]
theorem wipe_all {vs : List Nat} {σ : L2.St} : ∀ {us : List Nat}, (∀ i ∈ us, i ∈ vs) → wipe (wipe σ vs) us = wipe σ vs
  | [], _ => rfl
  | a :: r, h => by
    show (wipe (wipe σ vs) r).set a none = _
    rw [wipe_all fun i z => h i (List.mem_cons_of_mem _ z)]
    exact wipe_one (h a List.mem_cons_self)
theorem wipeR_one : ∀ {vs : List Nat} {ρ : List Slot} {i : Nat}, i ∈ vs → (wipeR ρ vs).set i .emp = wipeR ρ vs
  | [], _, _, h => nomatch h
  | a :: r, ρ, i, h => by
    unfold wipeR
    by_cases q : i = a
    · subst q; rw [List.set_set]
    · rw [List.set_comm _ _ (Ne.symm q), wipeR_one ((List.mem_cons.mp h).elim (fun z => absurd z q) id)]
theorem wipeR_all {vs : List Nat} {ρ : List Slot} : ∀ {us : List Nat}, (∀ i ∈ us, i ∈ vs) → wipeR (wipeR ρ vs) us = wipeR ρ vs
  | [], _ => rfl
  | a :: r, h => by
    show (wipeR (wipeR ρ vs) r).set a .emp = _
    rw [wipeR_all fun i z => h i (List.mem_cons_of_mem _ z)]
    exact wipeR_one (h a List.mem_cons_self)
def liftG (c : Ct) (sl : List Nat) (g : WG) : TG := fun v σ H Q => ∃ F ρ d P, c.S F H σ ρ ∧ R c.K c.T F d v ∧ g d ρ P ∧ ∀ ρ' σ' F' H', P ρ' → c.S F' H' σ' ρ' → Same F F' → Only sl σ σ' ρ ρ' → Q σ' H'
def liftGs (c : Ct) (sl : List Nat) (g : List D → List Slot → (List Slot → Prop) → Prop) : TGs := fun vs σ H Q => ∃ F ρ ds P, c.S F H σ ρ ∧ Rs c.K c.T F ds vs ∧ g ds ρ P ∧ ∀ ρ' σ' F' H', P ρ' → c.S F' H' σ' ρ' → Same F F' → Only sl σ σ' ρ ρ' → Q σ' H'
def gN (i : Nat) : WG := fun d ρ P => P (ρ.set i (.val d))
def gsNil : List D → List Slot → (List Slot → Prop) → Prop := fun ds ρ P => ds = [] ∧ P ρ
def gsCons (g : WG) (r : List D → List Slot → (List Slot → Prop) → Prop) : List D → List Slot → (List Slot → Prop) → Prop
  | [], _, _ => False
  | d :: ds, ρ, P => g d ρ fun ρ1 => r ds ρ1 P
def gT (n : Nat) (gs : List D → List Slot → (List Slot → Prop) → Prop) : WG
  | .tup ds, ρ, P => ds.length = n ∧ gs ds ρ P
  | _, _, _ => False
def gL (n : Nat) (gs : List D → List Slot → (List Slot → Prop) → Prop) : WG
  | .lst ds, ρ, P => ds.length = n ∧ gs ds ρ P
  | _, _, _ => False

def sNil : WS := fun A ρ => A.nx ρ
def sSeq (t u : WS) : WS := fun A ρ => t { A with nx := u A } ρ
def sSet (g : WG) (w : WE) : WS := fun A ρ => w ρ (fun d => g d ρ A.nx) (fun x => A.xe x ρ)
def sRet (w : WE) : WS := fun A ρ => w ρ A.rt (fun x => A.xe x ρ)
def sRetN : WS := fun A _ => A.rt .non
def sIf (t : WT) (a b : WS) : WS := fun A ρ => t ρ (fun k => if k = true then a A ρ else b A ρ) (fun x => A.xe x ρ)
def sExpr (w : WE) : WS := fun A ρ => w ρ (fun _ => A.nx ρ) (fun x => A.xe x ρ)
def sBrk : WS := fun A ρ => A.bk ρ
def sCnt : WS := fun A ρ => A.ct ρ

section
variable {c : Ct} {X : Cx} {s : Sig}
/-- a slot is stored -/
theorem Stt.put {F H : Hp} {σ : L2.St} {ρ : List Slot} (S : c.S F H σ ρ) (i : Nat) {d : D} {v : V} (r : R c.K c.T F d v) : c.S F H (σ.set i (some v)) (ρ.set i (.val d)) := by
  refine ⟨S.gr, by rw [List.length_set, List.length_set]; exact S.len, fun j t e => ?_, fun j k a o p h1 h2 h3 h4 => ?_, fun j k ns ds h => ?_⟩
  · by_cases hj : i = j
    · subst hj
      have hi : i < ρ.length := by
        have := (List.getElem?_eq_some_iff.mp e).1
        rwa [List.length_set] at this
      rw [List.getElem?_set_self hi] at e
      cases e
      rw [List.getElem?_set_self (by rw [S.len]; exact hi)]
      exact ⟨v, rfl, r⟩
    · rw [List.getElem?_set_ne hj] at e ⊢
      exact S.slot j t e
  · have nj : ∀ {j : Nat} {o : O}, (ρ.set i (.val d))[j]? = some (.own o) → i ≠ j ∧ ρ[j]? = some (.own o) := fun {j o} h => by
      by_cases hj : i = j
      · subst hj
        have hi : i < ρ.length := by
          have := (List.getElem?_eq_some_iff.mp h).1
          rwa [List.length_set] at this
        rw [List.getElem?_set_self hi] at h
        cases h
      · rw [List.getElem?_set_ne hj] at h
        exact ⟨hj, h⟩
    obtain ⟨n1, g1⟩ := nj h1
    obtain ⟨n2, g2⟩ := nj h2
    rw [List.getElem?_set_ne n1] at h3
    rw [List.getElem?_set_ne n2] at h4
    exact S.sep j k a o p g1 g2 h3 h4
  · by_cases hj : i = j
    · subst hj
      have hi : i < ρ.length := by
        have := (List.getElem?_eq_some_iff.mp h).1
        rwa [List.length_set] at this
      rw [List.getElem?_set_self hi] at h
      cases h
    · rw [List.getElem?_set_ne hj] at h ⊢
      exact S.inst j k ns ds h
theorem pg_weak {e : Expr} {t t' : TG} (h : PG X e t) (hw : ∀ v σ H Q, t' v σ H Q → t v σ H Q) : PG X e t' := ⟨fun pins s σ H v u Q I r q => h.run pins s σ H v u Q I r (hw v σ H Q q)⟩
theorem pgs_weak {es : List Expr} {t t' : TGs} (h : PGs X es t) (hw : ∀ v σ H Q, t' v σ H Q → t v σ H Q) : PGs X es t' := ⟨fun pins s σ H vs us Q I r q => h.run pins s σ H vs us Q I r (hw vs σ H Q q)⟩
theorem lg_name {i : Nat} {x : Str} {pos : Pos} (hN : X.N.Nodup) (hi : X.N[i]? = some x) (hx : Loc X.env.scope x) (hf : X.fn x = true ∨ X.env.scope.names.lookup x = some .local) : PG X (.Name x pos) (liftG c [i] (gN i)) :=
  pg_weak (pg_name hN hi hx hf) fun v σ H Q ⟨F, ρ, d, P, S, r, g, q⟩ => q _ _ F H g (S.put i r) (Same.refl F) fun vs h => ⟨wipe_set (h i List.mem_cons_self), wipeR_set (h i List.mem_cons_self)⟩
theorem lgs_nil : PGs X [] (liftGs c [] gsNil) := pgs_weak pgs_nil fun vs σ H Q ⟨F, ρ, ds, P, S, r, g, q⟩ => by
  obtain ⟨rfl, g⟩ := g
  cases r
  exact ⟨rfl, q _ _ F H g S (Same.refl F) (Only.refl _ _ _)⟩
theorem lgs_cons {e : Expr} {es : List Expr} {g : WG} {gs : List D → List Slot → (List Slot → Prop) → Prop} {sl sl2 : List Nat} (h1 : PG X e (liftG c sl g)) (h2 : PGs X es (liftGs c sl2 gs)) (hs : (assignEach (e :: es) X.env).map (·.2) = assign e X.env :: (assignEach es X.env).map (·.2)) : PGs X (e :: es) (liftGs c (sl ++ sl2) (gsCons g gs)) := by
  refine pgs_weak (pgs_cons h1 h2 hs) fun vs σ H Q ⟨F, ρ, ds, P, S, r, w, q⟩ => ?_
  cases ds with
  | nil => exact False.elim w
  | cons d ds =>
    obtain ⟨v, t, rfl, rv, rt⟩ := r
    exact ⟨v, t, rfl, F, ρ, d, _, S, rv, w, fun ρ' σ' F' H' w' S' e on => ⟨F', ρ', ds, P, S', rt.mono e, w', fun ρ2 σ2 F2 H2 w2 S2 e2 on2 => q ρ2 σ2 F2 H2 w2 S2 (e.trans e2) fun vs h => ⟨(on2 vs fun i z => h i (List.mem_append_right _ z)).1.trans (on vs fun i z => h i (List.mem_append_left _ z)).1, (on2 vs fun i z => h i (List.mem_append_right _ z)).2.trans (on vs fun i z => h i (List.mem_append_left _ z)).2⟩⟩⟩
theorem lg_tup {es : List Expr} {k n : Nat} {pos : Pos} {gs : List D → List Slot → (List Slot → Prop) → Prop} (hK : X.K = c.K) {sl : List Nat} (hc : X.calm = true) (h : PGs X es (liftGs c sl gs)) (hn : (assignEach es X.env).length = n) (hst : (assignEach es X.env).findIdx? (·.1) = none) : PG X (.Tuple es k pos) (liftG c sl (gT n gs)) := by
  refine pg_weak (pg_tup hc h hn hst) fun v σ H Q ⟨F, ρ, d, P, S, r, w, q⟩ => ?_
  cases d with
  | tup ds =>
    obtain ⟨a, vs, rfl, s1, r1⟩ := r
    exact ⟨a, vs, rfl, hK ▸ S.gr.sub.sqT s1, by rw [← r1.length]; exact w.1, F, ρ, ds, P, S, r1, w.2, q⟩
  | _ => exact False.elim w
theorem lg_lst {es : List Expr} {k n : Nat} {pos : Pos} {gs : List D → List Slot → (List Slot → Prop) → Prop} (hK : X.K = c.K) {sl : List Nat} (hc : X.calm = true) (h : PGs X es (liftGs c sl gs)) (hn : (assignEach es X.env).length = n) (hst : (assignEach es X.env).findIdx? (·.1) = none) : PG X (.Tuple es k pos) (liftG c sl (gL n gs)) := by
  refine pg_weak (pg_unl hc h hn hst) fun v σ H Q ⟨F, ρ, d, P, S, r, w, q⟩ => ?_
  cases d with
  | lst ds =>
    obtain ⟨a, vs, rfl, s1, r1⟩ := r
    exact ⟨a, vs, rfl, hK ▸ S.gr.sub.seq s1, by rw [← r1.length]; exact w.1, F, ρ, ds, P, S, r1, w.2, q⟩
  | _ => exact False.elim w

theorem ls_nil : PSs X [] (liftS c sNil) := pss_weak pss_nil fun D0 σ H ⟨F, ρ, A, S, w, q⟩ => q.nx ρ σ F H w S (Same.refl F)
theorem ls_cons {st : Stmt} {rest : List Stmt} {t u : WS} (h1 : PS X st (liftS c t)) (h2 : PSs X rest (liftS c u)) : PSs X (st :: rest) (liftS c (sSeq t u)) := by
  refine pss_weak (pss_cons h1 h2) fun D0 σ H ⟨F, ρ, A, S, w, q⟩ => ?_
  exact ⟨F, ρ, { A with nx := u A }, S, w, ⟨fun ρ' σ' F' H' w' S' e => ⟨F', ρ', A, S', w', q.up e⟩, q.rt, q.bk, q.ct, q.xe, q.ro⟩⟩
theorem ls_pass {pos : Pos} : PS X (.Pass pos) (liftS c sNil) := ps_weak ps_pass fun D0 σ H ⟨F, ρ, A, S, w, q⟩ => q.nx ρ σ F H w S (Same.refl F)
theorem ls_brk {pos : Pos} : PS X (.Break pos) (liftS c sBrk) := ps_weak ps_break fun D0 σ H ⟨F, ρ, A, S, w, q⟩ => q.bk ρ σ F H w S (Same.refl F)
theorem ls_cnt {pos : Pos} : PS X (.Continue pos) (liftS c sCnt) := ps_weak ps_continue fun D0 σ H ⟨F, ρ, A, S, w, q⟩ => q.ct ρ σ F H w S (Same.refl F)
theorem ls_doc {x j pos pos'} : PS X (.Expr (.Constant (.str x) j pos) pos') (liftS c sNil) := ps_weak ps_doc fun D0 σ H ⟨F, ρ, A, S, w, q⟩ => q.nx ρ σ F H w S (Same.refl F)
theorem ls_set {tg e : Expr} {w : WE} {g : WG} {sl : List Nat} {pos : Pos} (he : PE X e (liftE c w)) (hg : PG X tg (liftG c sl g)) (hs : swapsWithSole [tg] e pos.line X.env = pure false) (hw : swappedStores [tg] e X.env = pure none) (h1 : (assignEach [tg] X.env).map (·.2) = [assign tg X.env]) : PS X (.Assign [tg] e pos) (liftS c (sSet g w)) := by
  refine ps_weak (ps_asg he hg hs hw h1) fun D0 σ H ⟨F, ρ, A, S, w, q⟩ => ⟨F, ρ, _, _, S, w, fun d v F1 H1 w1 S1 e1 r1 => ⟨F1, ρ, d, _, S1, r1, w1, fun ρ' σ' F' H' w' S' e' _ => q.nx ρ' σ' F' H' w' S' (e1.trans e')⟩, q.qX σ ρ⟩
theorem ls_ret {e : Expr} {w : WE} {pos : Pos} (he : PE X e (liftE c w)) : PS X (.Return (some e) pos) (liftS c (sRet w)) :=
  ps_weak (ps_ret he) fun D0 σ H ⟨F, ρ, A, S, w, q⟩ => ⟨F, ρ, _, _, S, w, fun d v F1 H1 w1 S1 e1 r1 => q.rt d v F1 H1 w1 S1.gr e1 r1, q.qX σ ρ⟩
theorem ls_retN {pos : Pos} : PS X (.Return none pos) (liftS c sRetN) := ps_weak ps_retN fun D0 σ H ⟨F, ρ, A, S, w, q⟩ => q.rt _ _ F H w S.gr (Same.refl F) rfl
theorem ls_if {t : Expr} {a b : List Stmt} {wt : WT} {wa wb : WS} {pos : Pos} (ht : PT X t (liftT c wt)) (ha : PSs X a (liftS c wa)) (hb : PSs X b (liftS c wb)) : PS X (.If t a b pos) (liftS c (sIf wt wa wb)) := by
  refine ps_weak (ps_if ht ha hb) fun D0 σ H ⟨F, ρ, A, S, w, q⟩ => ⟨F, ρ, _, _, S, w, fun k F1 H1 w1 S1 e1 => ?_, q.qX σ ρ⟩
  cases k with
  | true => exact ⟨F1, ρ, A, S1, w1, q.up e1⟩
  | false => exact ⟨F1, ρ, A, S1, w1, q.up e1⟩
theorem ls_expr {e : Expr} {w : WE} {pos : Pos} (he : PE X e (liftE c w)) (hs : swapsWith e none pos.line X.env = pure false) : PS X (.Expr e pos) (liftS c (sExpr w)) :=
  ps_weak (ps_expr he hs) fun D0 σ H ⟨F, ρ, A, S, w, q⟩ => ⟨F, ρ, _, _, S, w, fun d v F1 H1 w1 S1 e1 r1 => q.nx ρ σ F1 H1 w1 S1 e1, q.qX σ ρ⟩
end
end Tr

namespace Tr
open PySem PySem.Spec PyProof.Rows L2

/-! ### lists of one's own -/
def liftF (c : Ct) (w : WE) : TE := fun σ H Q => ∃ F ρ P E, c.S F H σ ρ ∧ w ρ P E ∧ (∀ ds vs p F' H', P (.lst ds) → c.S F' H' σ ρ → Same F F' → Rs c.K c.T F' ds vs → H' p = none → Q (.ref p) (upd H' p (.lst vs))) ∧ c.qX F σ ρ E
def isLst : D → (List D → Prop) → Prop
  | .lst ds, P => P ds
  | _, _ => False
def sNew (i : Nat) (w : WE) : WS := fun A ρ => w ρ (fun d => isLst d fun ds => A.nx (ρ.set i (.own (.lst ds)))) (fun x => A.xe x ρ)
def ownL (ρ : List Slot) (i : Nat) (P : List D → Prop) : Prop := match ρ[i]? with | some (.own (.lst ds)) => P ds | _ => False
def isInt : D → (Int → Prop) → Prop
  | .int z, P => P z
  | _, _ => False
def hasI {α : Type} : Option α → (α → Prop) → Prop
  | some x, P => P x
  | none, _ => False
def sApp (i : Nat) (w : WE) : WS := fun A ρ => ownL ρ i fun ds => w ρ (fun d => ds.length < sizeLine ∧ A.nx (ρ.set i (.own (.lst (ds ++ [d]))))) (fun x => A.xe x ρ)
def sPut (i : Nat) (wi w : WE) : WS := fun A ρ => ownL ρ i fun ds => w ρ (fun d => wi ρ (fun k => isInt k fun z => hasI (ixN ds.length z) fun j => A.nx (ρ.set i (.own (.lst (ds.set j d))))) (fun x => A.xe x ρ)) (fun x => A.xe x ρ)
/-- x[k] += e -/
def sPutA (i : Nat) (f : Int → Int → Int) (wi w : WE) : WS := fun A ρ => ownL ρ i fun ds => wi ρ (fun k => isInt k fun z => hasI (ixN ds.length z) fun j => hasI (atI ds z) fun old => isInt old fun a => w ρ (fun d => isInt d fun b => A.nx (ρ.set i (.own (.lst (ds.set j (.int (f a b))))))) (fun x => A.xe x ρ)) (fun x => A.xe x ρ)
/-- digits: x[0] = e -/
def sDig (i : Nat) (wi w : WE) : WS := fun A ρ => ρ[i]? = some (.val (.cell 2)) ∧ w ρ (fun d => wi ρ (fun k => k = .int 0 ∧ isInt d fun z => 0 ≤ z ∧ A.nx ρ) (fun x => A.xe x ρ)) (fun x => A.xe x ρ)
/-- [e] as digits -/
def wDig (w : WE) : WE := fun ρ P E => w ρ (fun d => isInt d fun z => 0 ≤ z ∧ P (.cell 2)) E
/-- return of a list of one's own, as the caller's own -/
def sRetO (i : Nat) : WS := fun A ρ => ownL ρ i A.ro
def sFrz (i : Nat) : WS := fun A ρ => match ρ[i]? with
  | some (.own (.lst ds)) => A.nx (ρ.set i (.val (.lst ds)))
  | some (.own (.ins k ns ds)) => A.nx (ρ.set i (.val (.ins k ns ds)))
  | _ => False
/-- reading a list of one's own -/
def wIxO (i : Nat) (wi : WE) : WE := fun ρ P E => ownL ρ i fun ds => wi ρ (fun k => isInt k fun z => hasI (atI ds z) P) E
def wLenO (i : Nat) : WE := fun ρ P _ => ownL ρ i fun ds => P (.int ds.length)

section
variable {c : Ct} {X : Cx} {s : Sig} {F H : Hp} {σ : L2.St} {ρ : List Slot}
theorem lf_up {w : WE} {Q : VK} (h : liftE c w σ H Q) : liftF c w σ H Q := by
  obtain ⟨F, ρ, P, E, S, w1, q, x⟩ := h
  exact ⟨F, ρ, P, E, S, w1, fun ds vs p F' H' h1 S1 e1 r1 np => new_lst S1 r1 h1 (q.up e1) p np, x⟩
theorem lv_of_lf {e : Expr} {w : WE} (h : PE X e (liftF c w)) : PE X e (liftE c w) := pe_weak h fun _ _ _ => lf_up
theorem ownL_of {i : Nat} {P : List D → Prop} (h : ownL ρ i P) : ∃ ds, ρ[i]? = some (.own (.lst ds)) ∧ P ds := by
  unfold ownL at h
  split at h
  · exact ⟨_, by assumption, h⟩
  · exact h.elim
/-- where it lies -/
theorem Stt.ownAt (S : c.S F H σ ρ) {i : Nat} {o : O} (e : ρ[i]? = some (.own o)) : ∃ a u, σ[i]? = some (some (.ref a)) ∧ H a = some u ∧ OAt c.K c.T F o u ∧ F a = none ∧ c.B a = none := by
  obtain ⟨a, u, h1, h2, h3, h4, h5⟩ := S.slot i _ e
  refine ⟨a, u, ?_, h2, h3, h4, h5⟩
  cases z : σ[i]? with
  | none => rw [z] at h1; cases h1
  | some o => rw [z] at h1; exact congrArg some h1
theorem lt_of_get {α : Type} {l : List α} {i : Nat} {x : α} (h : l[i]? = some x) : i < l.length := (List.getElem?_eq_some_iff.mp h).1
/-- a new mutable thing at p, in slot i -/
theorem Stt.own (S : c.S F H σ ρ) (i : Nat) {p : Addr} (np : H p = none) {o : O} {u : HO} (ho : OAt c.K c.T F o u) (hl0 : ∀ k ns ds, o ≠ .ins k ns ds) : c.S F (upd H p u) (σ.set i (some (.ref p))) (ρ.set i (.own o)) := by
  have sH : Same H (upd H p u) := fun a x e => by rw [upd_ne (ne_of_none e np)]; exact e
  have hl : ∀ {j : Nat} {t : Slot}, (ρ.set i (.own o))[j]? = some t → j < ρ.length := fun e => by have := lt_of_get e; rwa [List.length_set] at this
  refine ⟨⟨S.gr.keep.up sH, S.gr.sub.trans sH, S.gr.new, S.gr.old, S.gr.cel.up sH⟩, by rw [List.length_set, List.length_set]; exact S.len, fun j t e => ?_, fun j k a o1 o2 h1 h2 h3 h4 => ?_, fun j k ns ds h => ?_⟩
  · have hj' := hl e
    by_cases hj : i = j
    · subst hj
      rw [List.getElem?_set_self hj'] at e
      cases e
      rw [List.getElem?_set_self (by rw [S.len]; exact hj')]
      exact ⟨p, u, rfl, upd_same, ho, S.gr.sub.free np, S.gr.keep.free np⟩
    · rw [List.getElem?_set_ne hj] at e ⊢
      have z := S.slot j t e
      cases t with
      | emp => trivial
      | val d => exact z
      | own ob =>
        obtain ⟨a, w, e1, e2, e3, e4, e5⟩ := z
        exact ⟨a, w, e1, sH a w e2, e3, e4, e5⟩
  · have other : ∀ {j : Nat} {o1 : O} {a : Addr}, i ≠ j → (ρ.set i (.own o))[j]? = some (.own o1) → (σ.set i (some (.ref p)))[j]? = some (some (.ref a)) → a ≠ p := fun {j o1 a} hj e1 e2 => by
      rw [List.getElem?_set_ne hj] at e1 e2
      obtain ⟨b, w, g1, g2, _⟩ := S.ownAt e1
      rw [g1] at e2
      cases e2
      exact ne_of_none g2 np
    have self : ∀ {j : Nat} {o1 : O} {a : Addr}, i = j → (ρ.set i (.own o))[j]? = some (.own o1) → (σ.set i (some (.ref p)))[j]? = some (some (.ref a)) → a = p := fun {j o1 a} hj e1 e2 => by
      subst hj
      rw [List.getElem?_set_self (by rw [S.len]; exact hl e1)] at e2
      cases e2
      rfl
    by_cases hj : i = j
    · by_cases hk : i = k
      · exact hj.symm.trans hk
      · exact absurd (self hj h1 h3) (other hk h2 h4)
    · by_cases hk : i = k
      · exact absurd (self hk h2 h4) (other hj h1 h3)
      · rw [List.getElem?_set_ne hj] at h1 h3
        rw [List.getElem?_set_ne hk] at h2 h4
        exact S.sep j k a o1 o2 h1 h2 h3 h4
  · by_cases hj : i = j
    · subst hj
      rw [List.getElem?_set_self (hl h)] at h
      exact absurd (Slot.own.inj (Option.some.inj h)) (hl0 k ns ds)
    · rw [List.getElem?_set_ne hj] at h ⊢
      exact S.inst j k ns ds h
/-- it is written -/
theorem Stt.write (S : c.S F H σ ρ) {i : Nat} {o o' : O} {a : Addr} {u' : HO} (e : ρ[i]? = some (.own o)) (ea : σ[i]? = some (some (.ref a))) (ho : OAt c.K c.T F o' u') (hk : ∀ k ns ds, o' = .ins k ns ds → ∃ k' ns' ds', o = .ins k' ns' ds') : c.S F (upd H a u') σ (ρ.set i (.own o')) := by
  obtain ⟨b, u, g1, g2, g3, g4, g5⟩ := S.ownAt e
  rw [ea] at g1
  cases g1
  have nn : ∀ {b : Addr}, upd H a u' b = none → b ≠ a ∧ H b = none := fun {b} z => by
    by_cases q : b = a
    · subst q; rw [upd_same] at z; cases z
    · rw [upd_ne q] at z; exact ⟨q, z⟩
  refine ⟨⟨⟨fun b x z n => by rw [upd_ne (ne_of_none z g5)]; exact S.gr.keep.p b x z n, fun b z => S.gr.keep.d b (nn z).2⟩, ⟨fun b x z n => by rw [upd_ne (ne_of_none z g4)]; exact S.gr.sub.p b x z n, fun b z => S.gr.sub.d b (nn z).2⟩, S.gr.new, S.gr.old, ⟨fun b i z => by
    obtain ⟨w, h1, h2⟩ := S.gr.cel.m b i z
    exact ⟨w, by rw [upd_ne (ne_of_none z g4)]; exact h1, h2⟩, S.gr.cel.tb⟩⟩, by rw [List.length_set]; exact S.len, fun j t ej => ?_, fun j k b o1 o2 h1 h2 h3 h4 => ?_, fun j k ns ds h => ?_⟩
  · have hj' : j < ρ.length := by have := lt_of_get ej; rwa [List.length_set] at this
    by_cases hj : i = j
    · subst hj
      rw [List.getElem?_set_self hj'] at ej
      cases ej
      exact ⟨a, u', by rw [ea]; rfl, upd_same, ho, g4, g5⟩
    · rw [List.getElem?_set_ne hj] at ej
      have z := S.slot j t ej
      cases t with
      | emp => trivial
      | val d => exact z
      | own ob =>
        obtain ⟨b, w, e1, e2, e3, e4, e5⟩ := S.ownAt ej
        have nb : b ≠ a := fun q => hj (S.sep i j a o ob e ej ea (by rw [e1, q]))
        exact ⟨b, w, by rw [e1]; rfl, by rw [upd_ne nb]; exact e2, e3, e4, e5⟩
  · have back : ∀ {j : Nat} {o1 : O}, (ρ.set i (.own o'))[j]? = some (.own o1) → ∃ o2, ρ[j]? = some (.own o2) := fun {j o1} h => by
      by_cases hj : i = j
      · subst hj; exact ⟨o, e⟩
      · rw [List.getElem?_set_ne hj] at h; exact ⟨o1, h⟩
    obtain ⟨p1, q1⟩ := back h1
    obtain ⟨p2, q2⟩ := back h2
    exact S.sep j k b p1 p2 q1 q2 h3 h4
  · by_cases hj : i = j
    · subst hj
      rw [List.getElem?_set_self (by have := lt_of_get h; rwa [List.length_set] at this)] at h
      obtain ⟨k', ns', ds', e'⟩ := hk k ns ds (Slot.own.inj (Option.some.inj h))
      subst e'
      exact S.inst i k' ns' ds' e
    · rw [List.getElem?_set_ne hj] at h
      exact S.inst j k ns ds h
/-- it is frozen: from now on a value -/
theorem Stt.freeze (S : c.S F H σ ρ) {i : Nat} {o : O} {d : D} (e : ρ[i]? = some (.own o)) (hn : ∀ kvs, o ≠ .dct kvs) (hd : ∀ {F' : Hp} {a : Addr} {u : HO}, OAt c.K c.T F' o u → F' a = some u → R c.K c.T F' d (.ref a)) : ∃ F', c.S F' H σ (ρ.set i (.val d)) ∧ Same F F' := by
  obtain ⟨a, u, g1, g2, g3, g4, g5⟩ := S.ownAt e
  have sF : Same F (upd F a u) := fun b x z => by rw [upd_ne (ne_of_none z g4)]; exact z
  have nm : ∀ i, u ≠ mkr i := fun i z => by
    cases o with
    | lst ds => obtain ⟨vs, e, _⟩ := g3; rw [e] at z; cases z
    | ins k ns ds => obtain ⟨dx, vs, e, _⟩ := g3; rw [e] at z; cases z
    | dct kvs => exact hn kvs rfl
  refine ⟨upd F a u, ⟨⟨S.gr.keep, ⟨fun b x z n => ?_, fun b z => ?_⟩, fun b x z => ?_, S.gr.old.trans sF, ⟨fun b i z => ?_, fun q hq => sF _ _ (S.gr.cel.tb q hq)⟩⟩, by rw [List.length_set]; exact S.len, fun j t ej => ?_, fun j k b o1 o2 h1 h2 h3 h4 => ?_, fun j k ns ds h => ?_⟩, sF⟩
  · by_cases q : b = a
    · subst q; rw [upd_same] at z; cases z; exact g2
    · rw [upd_ne q] at z; exact S.gr.sub.p b x z n
  · by_cases q : b = a
    · subst q; rw [g2] at z; cases z
    · rw [upd_ne q]; exact S.gr.sub.d b z
  · by_cases q : b = a
    · subst q; exact .inr g5
    · rw [upd_ne q] at z; exact S.gr.new b x z
  · by_cases q : b = a
    · subst q; rw [upd_same] at z; exact absurd (Option.some.inj z) (nm i)
    · rw [upd_ne q] at z
      obtain ⟨w, h1, h2⟩ := S.gr.cel.m b i z
      exact ⟨w, h1, h2.mono sF⟩
  · have hj' : j < ρ.length := by have := lt_of_get ej; rwa [List.length_set] at this
    by_cases hj : i = j
    · subst hj
      rw [List.getElem?_set_self hj'] at ej
      cases ej
      exact ⟨.ref a, by rw [g1]; rfl, hd (g3.mono sF) upd_same⟩
    · rw [List.getElem?_set_ne hj] at ej
      have z := S.slot j t ej
      cases t with
      | emp => trivial
      | val d => obtain ⟨v, e1, r⟩ := z; exact ⟨v, e1, r.mono sF⟩
      | own ob =>
        obtain ⟨b, w, e1, e2, e3, e4, e5⟩ := S.ownAt ej
        have nb : b ≠ a := fun q => hj (S.sep i j a o ob e ej g1 (by rw [e1, q]))
        exact ⟨b, w, by rw [e1]; rfl, e2, e3.mono sF, by rw [upd_ne nb]; exact e4, e5⟩
  · have back : ∀ {j : Nat} {o1 : O}, (ρ.set i (.val d))[j]? = some (.own o1) → ρ[j]? = some (.own o1) := fun {j o1} h => by
      by_cases hj : i = j
      · subst hj
        rw [List.getElem?_set_self (by have := lt_of_get h; rwa [List.length_set] at this)] at h
        cases h
      · rw [List.getElem?_set_ne hj] at h; exact h
    exact S.sep j k b o1 o2 (back h1) (back h2) h3 h4
  · by_cases hj : i = j
    · subst hj
      rw [List.getElem?_set_self (by have := lt_of_get h; rwa [List.length_set] at this)] at h
      cases h
    · rw [List.getElem?_set_ne hj] at h
      exact S.inst j k ns ds h

theorem lf_lst {es : List Expr} {wa : WA} {pos} (h : PA X es (liftA c wa)) : PE X (.List es pos) (liftF c (wLst wa)) :=
  pe_weak (pe_lst h) fun σ H Q ⟨F, ρ, P, E, S, w, q, x⟩ => ⟨F, ρ, _, E, S, w, fun ds vs F1 H1 w1 S1 e1 r1 => ⟨by rw [← r1.length]; exact w1.1, fun p np => q ds vs p F1 H1 w1.2 S1 e1 r1 np⟩, x⟩
theorem ls_new {i : Nat} {x : Str} {p' pos : Pos} {e : Expr} {w : WE} (hN : X.N.Nodup) (hi : X.N[i]? = some x) (hx : Loc X.env.scope x) (hf : X.fn x = true ∨ X.env.scope.names.lookup x = some .local) (he : PE X e (liftF c w)) (hs : swapsWith e (some (.Name x p')) pos.line X.env = pure false) : PS X (.Assign [.Name x p'] e pos) (liftS c (sNew i w)) := by
  refine ps_weak (ps_set hN hi hx he hs hf) fun D0 σ H ⟨F, ρ, A, S, w, q⟩ => ⟨F, ρ, _, _, S, w, fun ds vs p F1 H1 w1 S1 e1 r1 np => ?_, q.qX σ ρ⟩
  exact q.nx _ _ F1 _ w1 (S1.own i np (o := .lst ds) ⟨vs, rfl, r1⟩ fun _ _ _ z => nomatch z) e1
theorem ls_retO {i : Nat} {x : Str} {p pos : Pos} (hN : X.N[i]? = some x) (hv : Vis X.env.scope x) (hd : (x == ("__debug__" : Str)) = false) (hcd : (x == ("__classdict__" : Str)) = false) : PS X (.Return (some (.Name x p)) pos) (liftS c (sRetO i)) := by
  refine ps_weak (ps_ret (pe_var hN hv hd hcd)) fun D0 σ H ⟨F, ρ, A, S, w, q⟩ => ?_
  obtain ⟨ds, e, w⟩ := ownL_of w
  obtain ⟨a, u, g1, g2, ⟨vs, rfl, r⟩, g4, g5⟩ := S.ownAt e
  exact ⟨.ref a, g1, q.ro ds a vs F H w S.gr (Same.refl F) g2 g4 g5 r⟩
theorem ls_frz {i : Nat} {rest : List Stmt} {u : WS} (h : PSs X rest (liftS c u)) : PSs X rest (liftS c (sSeq (sFrz i) u)) := by
  refine pss_weak h fun D0 σ H ⟨F, ρ, A, S, w, q⟩ => ?_
  unfold sSeq sFrz at w
  split at w
  · rename_i ds e
    obtain ⟨F', S', e'⟩ := S.freeze e (d := .lst ds) (fun _ z => nomatch z) fun {F' a u} h1 h2 => by
      obtain ⟨vs, rfl, r⟩ := h1
      exact ⟨a, vs, rfl, .inl (.inl h2), r⟩
    exact ⟨F', _, A, S', w, q.up e'⟩
  · rename_i k ns ds e
    obtain ⟨F', S', e'⟩ := S.freeze e (d := .ins k ns ds) (fun _ z => nomatch z) fun {F' a u} h1 h2 => by
      obtain ⟨dx, vs, rfl, l, r⟩ := h1
      exact ⟨a, dx, vs, rfl, h2, l, r⟩
    exact ⟨F', _, A, S', w, q.up e'⟩
  · exact w.elim
theorem ls_app {i : Nat} {x m : Str} {p1 p2 p3 pos : Pos} {e : Expr} {w : WE} (hm : m = "append") (hN : X.N[i]? = some x) (hv : Vis X.env.scope x) (hd : (x == ("__debug__" : Str)) = false) (hcd : (x == ("__classdict__" : Str)) = false) (he : PE X e (liftE c w))
    (hbase : attributeBase (.Name x p1) m X.env (eval (.Name x p1) X.env) = eval (.Name x p1) X.env)
    (hline : (p2.endLine == p3.line) = true) (hs : starEach [e] X.env = (false, eval e X.env) :: starEach [] X.env) :
    PS X (.Expr (.Call (.Attribute (.Name x p1) m p2) [e] [] p3) pos) (liftS c (sApp i w)) := by
  subst hm
  have hfew : ((backTo p3 (starEach [e] X.env)).all (fun x => !x.1) && (backToKw p3 (keywordEach [] X.env)).all (fun x => x.1.isSome)
      && decide (([e] : List Expr).length + ([] : List Keyword).length + (if ([] : List Keyword).isEmpty then 0 else 1) < 30)) = true := by rw [hs]; rfl
  refine ps_weak (ps_expr (pe_bm PySem.F.plainAttrs_list PySem.F.slot_list_append PySem.F.type_list_append mt_append (pe_var hN hv hd hcd) (pa_cons he pa_nil hs) hbase hfew hline hs rfl)) fun D0 σ H ⟨F, ρ, A, S, w, q⟩ => ?_
  obtain ⟨ds, e, w⟩ := ownL_of w
  obtain ⟨a, u, g1, g2, ⟨vs, rfl, r⟩, g4, g5⟩ := S.ownAt e
  refine ⟨.ref a, g1, .inl ⟨rfl, vs, .inl (.inl g2)⟩, F, ρ, _, _, S, w, fun d v F1 H1 w1 S1 e1 r1 => ?_, q.qX σ ρ⟩
  obtain ⟨b, u, k1, k2, ⟨us, rfl, r2⟩, k4, k5⟩ := S1.ownAt e
  rw [g1] at k1
  cases k1
  refine ⟨a, us, v, rfl, rfl, k2, by rw [← r2.length]; exact w1.1, ?_⟩
  exact q.nx _ _ F1 _ w1.2 (S1.write e g1 (o' := .lst (ds ++ [d])) ⟨us ++ [v], rfl, r2.append (Rs.one r1)⟩ fun _ _ _ z => nomatch z) e1
theorem isInt_of {d : D} {P : Int → Prop} (h : isInt d P) : ∃ z, d = .int z ∧ P z := by
  cases d with
  | int z => exact ⟨z, rfl, h⟩
  | _ => exact False.elim h
theorem hasI_of {α : Type} {o : Option α} {P : α → Prop} (h : hasI o P) : ∃ x, o = some x ∧ P x := by
  cases o with
  | some x => exact ⟨x, rfl, h⟩
  | none => exact h.elim
theorem ls_put {i : Nat} {x : Str} {p1 p2 pos : Pos} {k e : Expr} {wi w : WE} (hN : X.N[i]? = some x) (hv : Vis X.env.scope x) (hd : (x == ("__debug__" : Str)) = false) (hcd : (x == ("__classdict__" : Str)) = false) (he : PE X e (liftE c w)) (hk : PE X k (liftE c wi))
    (hs : swapsWithSole [.Subscript (.Name x p1) k p2] e pos.line X.env = pure false)
    (ha : ∀ v, assign (.Subscript (.Name x p1) k p2) X.env v = (do
      let ov ← holding [v] (eval (.Name x p1) X.env)
      let iv ← holding [v, ov] (eval k X.env)
      standAt p2
      holding [v, ov, iv] (setItem ov iv v)
      release [v, ov, iv] [])) :
    PS X (.Assign [.Subscript (.Name x p1) k p2] e pos) (liftS c (sPut i wi w)) := by
  refine ps_weak (ps_asg he (pg_sub (pe_var hN hv hd hcd) hk set_list ha) hs rfl rfl) fun D0 σ H ⟨F, ρ, A, S, w, q⟩ => ?_
  obtain ⟨ds, e, w⟩ := ownL_of w
  obtain ⟨a, u, g1, g2, ⟨vs, rfl, r⟩, g4, g5⟩ := S.ownAt e
  refine ⟨F, ρ, _, _, S, w, fun d v F1 H1 w1 S1 e1 r1 => ⟨.ref a, g1, F1, ρ, _, _, S1, w1, fun d2 v2 F2 H2 w2 S2 e2 r2 => ?_, (q.qX σ ρ).up e1⟩, q.qX σ ρ⟩
  obtain ⟨z, rfl, w2⟩ := isInt_of w2
  obtain ⟨j, ej, w2⟩ := hasI_of w2
  cases r2
  obtain ⟨b, u, k1, k2, ⟨us, rfl, r3⟩, k4, k5⟩ := S2.ownAt e
  rw [g1] at k1
  cases k1
  refine ⟨a, us, z, j, rfl, rfl, k2, by rw [← r3.length]; exact ej, ?_⟩
  exact q.nx _ _ F2 _ w2 (S2.write e g1 (o' := .lst (ds.set j d)) ⟨us.set j v, rfl, r3.set j (r1.mono e2)⟩ fun _ _ _ z => nomatch z) (e1.trans e2)
theorem ls_dig {i : Nat} {x : Str} {p1 p2 pos : Pos} {k e : Expr} {wi w : WE} (hN : X.N[i]? = some x) (hv : Vis X.env.scope x) (hd : (x == ("__debug__" : Str)) = false) (hcd : (x == ("__classdict__" : Str)) = false) (he : PE X e (liftE c w)) (hk : PE X k (liftE c wi))
    (hs : swapsWithSole [.Subscript (.Name x p1) k p2] e pos.line X.env = pure false)
    (ha : ∀ v, assign (.Subscript (.Name x p1) k p2) X.env v = (do
      let ov ← holding [v] (eval (.Name x p1) X.env)
      let iv ← holding [v, ov] (eval k X.env)
      standAt p2
      holding [v, ov, iv] (setItem ov iv v)
      release [v, ov, iv] [])) :
    PS X (.Assign [.Subscript (.Name x p1) k p2] e pos) (liftS c (sDig i wi w)) := by
  refine ps_weak (ps_asg he (pg_sub (pe_var hN hv hd hcd) hk set_list ha) hs rfl rfl) fun D0 σ H ⟨F, ρ, A, S, ⟨sl, w⟩, q⟩ => ?_
  obtain ⟨u0, e1, a, rfl, ea⟩ := S.slot i _ sl
  have g1 : σ[i]? = some (some (.ref a)) := by
    cases z : σ[i]? with
    | none => rw [z] at e1; cases e1
    | some o => rw [z] at e1; exact congrArg some e1
  refine ⟨F, ρ, _, _, S, w, fun d v F1 H1 w1 S1 e1 r1 => ⟨.ref a, g1, F1, ρ, _, _, S1, w1, fun d2 v2 F2 H2 w2 S2 e2 r2 => ?_, (q.qX σ ρ).up e1⟩, q.qX σ ρ⟩
  obtain ⟨rfl, w2⟩ := w2
  obtain ⟨z, rfl, z0, w2⟩ := isInt_of w2
  cases r2
  cases r1
  have ea2 := e2 _ _ (e1 _ _ ea)
  obtain ⟨y, hy, _⟩ := S2.gr.cel.dig ea2
  exact ⟨a, _, 0, 0, rfl, rfl, hy, rfl, q.nx _ _ F2 _ w2 (S2.mem (u := .lst [.int z]) ea2 ⟨rfl, z, rfl, z0⟩) (e1.trans e2)⟩
theorem lv_dig {y : Expr} {w : WE} {pos : Pos} (h : PE X y (liftE c w)) (hs : starEach [y] X.env = (false, eval y X.env) :: starEach [] X.env) : PE X (.List [y] pos) (liftE c (wDig w)) := by
  refine pe_weak (pe_lst (pa_cons h pa_nil hs)) fun σ H Q ⟨F, ρ, P, E, S, w, q, x⟩ => ⟨F, ρ, _, E, S, w, fun d v F1 H1 w1 S1 e1 r1 => ?_, x⟩
  obtain ⟨z, rfl, z0, w1⟩ := isInt_of w1
  cases r1
  refine ⟨by show 1 ≤ sizeLine; decide, fun p np => ?_⟩
  obtain ⟨S2, e2⟩ := S1.cell (i := 2) (u := .lst [.int z]) np ⟨rfl, z, rfl, z0⟩
  exact q _ _ _ _ w1 S2 (e1.trans e2) ⟨p, rfl, upd_same⟩
def rGetL (K : PySem.W.Frag) : V → V → Hp → VK → Prop := fun x y H Q => ∃ p xs i v, x = .ref p ∧ y = .int i ∧ SqL K H p xs ∧ atI xs i = some v ∧ Q v H
theorem lv_ixO {i : Nat} {x : Str} {p1 pos : Pos} {k : Expr} {wi : WE} (hK : X.K = c.K) (hN : X.N[i]? = some x) (hv : Vis X.env.scope x) (hd : (x == ("__debug__" : Str)) = false) (hcd : (x == ("__classdict__" : Str)) = false) (hk : PE X k (liftE c wi)) (hs : PlainIx k) : PE X (.Subscript (.Name x p1) k pos) (liftE c (wIxO i wi)) := by
  refine pe_weak (pe_ix ix_list (pe_var hN hv hd hcd) hk hs) fun σ H Q ⟨F, ρ, P, E, S, w, q, qx⟩ => ?_
  obtain ⟨ds, e, w⟩ := ownL_of w
  obtain ⟨a, u, g1, g2, ⟨vs, rfl, r⟩, g4, g5⟩ := S.ownAt e
  refine ⟨.ref a, g1, F, ρ, _, _, S, w, fun d v F1 H1 w1 S1 e1 r1 => ?_, qx⟩
  obtain ⟨z, rfl, w1⟩ := isInt_of w1
  obtain ⟨d2, ej, w1⟩ := hasI_of w1
  cases r1
  obtain ⟨b, u, k1, k2, ⟨us, rfl, r3⟩, k4, k5⟩ := S1.ownAt e
  rw [g1] at k1
  cases k1
  obtain ⟨v2, h1, h2⟩ := r3.at ej
  exact ⟨a, us, z, v2, rfl, rfl, .inl (.inl k2), h1, q _ _ F1 H1 w1 S1 e1 h2⟩
theorem lv_lenO {i : Nat} {x f : Str} {p1 p2 pos : Pos} (hf : f = "len") (hN : X.N[i]? = some x) (hv : Vis X.env.scope x) (hd : (x == ("__debug__" : Str)) = false) (hcd : (x == ("__classdict__" : Str)) = false) (hg : Gl X f) (hm : X.mg f = none) : PE X (.Call (.Name f p1) [.Name x p2] [] pos) (liftE c (wLenO i)) := by
  subst hf
  refine pe_weak (pe_callB call_len_seq hg hm (by decide +kernel) (pa_cons (pe_var hN hv hd hcd) pa_nil)) fun σ H Q ⟨F, ρ, P, E, S, w, q, qx⟩ => ?_
  obtain ⟨ds, e, w⟩ := ownL_of w
  obtain ⟨a, u, g1, g2, ⟨vs, rfl, r⟩, g4, g5⟩ := S.ownAt e
  exact ⟨.ref a, g1, a, vs, rfl, .inl (.inl (.inl g2)), by rw [← r.length]; exact q _ _ F H w S (Same.refl F) rfl⟩

/-! ### x += e -/
def sAug (i : Nat) (f : D → D → WD) (w : WE) : WS := fun A ρ => match ρ[i]? with
  | some (.val a) => w ρ (fun b => f a b (fun d => A.nx (ρ.set i (.val d))) (fun x => A.xe x ρ)) (fun x => A.xe x ρ)
  | _ => False
theorem ls_aug {i : Nat} {x : Str} {e : Expr} {w : WE} {op : Operator} {ti : TIp} {f : D → D → WD} {p1 pos : Pos} (hN : X.N.Nodup) (hi : X.N[i]? = some x) (hx : Loc X.env.scope x) (hf : X.fn x = true ∨ X.env.scope.names.lookup x = some .local) (he : PE X e (liftE c w)) (ho : PIp X op ti) (h : Op2 c ti f) : PS X (.AugAssign (.Name x p1) op e pos) (liftS c (sAug i f w)) := by
  refine ps_weak (ps_aug hN hi hx he ho hf) fun D0 σ H ⟨F, ρ, A, S, w, q⟩ => ?_
  unfold sAug at w
  split at w
  · rename_i d0 e
    obtain ⟨v, e1, r⟩ := S.slot i _ e
    refine ⟨v, ?_, F, ρ, _, _, S, w, fun d u F1 H1 w1 S1 e1 r1 => h F1 H1 σ ρ v u d0 d _ _ _ S1 (r.mono e1) r1 w1 fun d2 v2 F2 H2 w2 S2 e2 r2 => q.nx _ _ F2 H2 w2 (S2.put i r2) (e1.trans e2), q.qX σ ρ⟩
    cases z : σ[i]? with
    | none => rw [z] at e1; cases e1
    | some o => rw [z] at e1; exact congrArg some e1
  · exact w.elim
theorem op2_ipI {f : Int → Int → Int} : Op2 c (ipI f) (dI2' fun i j => .int (f i j)) := by
  intro F H σ ρ x y dx dy P E Q S rx ry w q
  cases dx with
  | int i =>
    cases dy with
    | int j => exact ⟨i, j, rx, ry, q _ _ F H w S (Same.refl F) rfl⟩
    | _ => exact False.elim w
  | _ => exact False.elim w
theorem pip_of {op : Operator} {r : R2} (h : OpR X (inplaceOp op) r) : PIp X op r := fun pins s σ H x y v u Q I rx ry q => h pins s σ H x y v u Q I rx ry q
end
end Tr

namespace Tr
open PySem PySem.Spec PyProof.Rows L2

/-! ### loops -/
abbrev WI := List Slot → (List D → Prop) → (Exc → Prop) → Prop
structure Walk (c : Ct) (J : It) (G : Hp) (items : List D) : Prop where
  go : ∀ (i : Nat) (F H : Hp), Same G F → Sub F H → i < items.length → J.go i H
  stop : ∀ (i : Nat) (F H : Hp), Same G F → Sub F H → items.length ≤ i → J.stop i H
  yld : ∀ (sf : Addr) (F0 B : Hp) (i : Nat) (d : D) (F H : Hp) (σ : L2.St) (ρ : List Slot), items[i]? = some d → Stt c.K c.T sf F0 B F H σ ρ → Same G F → ∀ x H', J.yld i H x H' → ∃ F', Stt c.K c.T sf F0 B F' H' σ ρ ∧ Same F F' ∧ R c.K c.T F' d x
def liftI (c : Ct) (w : WI) : TI := fun σ H Rr => ∃ F ρ P E, c.S F H σ ρ ∧ w ρ P E ∧ (∀ items J F' H', P items → c.S F' H' σ ρ → Same F F' → Walk c J F' items → Rr J H') ∧ c.qX F σ ρ E
def wSeqI (w : WE) : WI := fun ρ P E => w ρ (fun d => match d with | .lst ds => P ds | .tup ds => P ds | _ => False) E
def wLstI (w : WE) : WI := fun ρ P E => w ρ (fun d => isLst d P) E
def isTup : D → (List D → Prop) → Prop
  | .tup ds, P => P ds
  | _, _ => False
def wTupI (w : WE) : WI := fun ρ P E => w ρ (fun d => isTup d P) E
/-- lo, lo + 1, .. -/
def rgD (lo hi : Int) : List D := (List.range (hi - lo).toNat).map fun i => .int (lo + (i : Nat))
def small62 (i : Int) : Prop := -(2 ^ 62) ≤ i ∧ i < 2 ^ 62
def wRg1 (w : WE) : WI := fun ρ P E => w ρ (fun d => isInt d fun n => small62 n ∧ P (rgD 0 n)) E
def wRg2 (a b : WE) : WI := fun ρ P E => a ρ (fun d => isInt d fun i => b ρ (fun d => isInt d fun j => small62 i ∧ small62 j ∧ P (rgD i j)) E) E
def wRev1 (w : WE) : WI := fun ρ P E => w ρ (fun d => isInt d fun n => small62 n ∧ P (rgD 0 n).reverse) E
def wZip (a b : WE) : WI := fun ρ P E => a ρ (fun x => b ρ (fun y => match x, y with
  | .lst xs, .lst ys => P ((xs.zip ys).map fun p => .tup [p.1, p.2])
  | .tup xs, .tup ys => P ((xs.zip ys).map fun p => .tup [p.1, p.2])
  | _, _ => False) E) E
def wEnum (a : WE) : WI := fun ρ P E => a ρ (fun d => isLst d fun ds => P ((List.range ds.length).zip ds |>.map fun p => .tup [.int (p.1 : Nat), p.2])) E

def chD (x : Str) : List D := x.cps.toList.map fun k => .str ⟨#[k]⟩
def isStr : D → (Str → Prop) → Prop
  | .str x, P => P x
  | _, _ => False
/-- the signs of a text -/
def wStrI (w : WE) : WI := fun ρ P E => w ρ (fun d => isStr d fun x => P (chD x)) E

def forL (g : WG) (b : WS) : List D → WS
  | [] => fun A ρ => A.nx ρ
  | d :: r => fun A ρ => g d ρ fun ρ1 => b { A with nx := forL g b r A, ct := forL g b r A, bk := A.nx } ρ1
def sFor (wi : WI) (g : WG) (b : WS) : WS := fun A ρ => wi ρ (fun items => forL g b items A ρ) (fun x => A.xe x ρ)
def whileN (t : WT) (b : WS) : Nat → WS
  | 0 => fun _ _ => False
  | n + 1 => fun A ρ => t ρ (fun k => if k = true then b { A with nx := whileN t b n A, ct := whileN t b n A, bk := A.nx } ρ else A.nx ρ) (fun x => A.xe x ρ)
def sWhile (t : WT) (b : WS) : WS := fun A ρ => ∃ n, whileN t b n A ρ

section
variable {c : Ct} {X : Cx} {s : Sig} {tg : Expr}
theorem pi_weak {iter : Expr} {t t' : TI} (h : PI X tg iter t) (hw : ∀ σ H Q, t' σ H Q → t σ H Q) : PI X tg iter t' := ⟨fun pins s σ H Q I q => h.run pins s σ H Q I (hw σ H Q q)⟩
theorem walk_list {G : Hp} {a : Addr} {ds : List D} {vs : List V} (h : SqL c.K G a vs) (r : Rs c.K c.T G ds vs) : Walk c (Itl c.K a) G ds where
  go := fun i F H h1 h2 hi => ⟨vs, vs[i]'(by rw [← r.length]; exact hi), (h2.pre h1).seq h, List.getElem?_eq_getElem _⟩
  stop := fun i F H h1 h2 hi => ⟨vs, (h2.pre h1).seq h, by rw [← r.length]; exact hi⟩
  yld := fun sf F0 B i d F H σ ρ e S hG x H' hy => by
    obtain ⟨rfl, f⟩ := hy
    obtain ⟨v, e1, r1⟩ := r.get e
    have := f vs ((S.gr.sub.pre hG).seq h)
    rw [e1] at this
    cases this
    exact ⟨F, S, Same.refl F, r1.mono hG⟩
theorem walk_tup {G : Hp} {a : Addr} {ds : List D} {vs : List V} (h : SqT c.K G a vs) (r : Rs c.K c.T G ds vs) : Walk c (Itt c.K a) G ds where
  go := fun i F H h1 h2 hi => ⟨vs, vs[i]'(by rw [← r.length]; exact hi), (h2.pre h1).sqT h, List.getElem?_eq_getElem _⟩
  stop := fun i F H h1 h2 hi => ⟨vs, (h2.pre h1).sqT h, by rw [← r.length]; exact hi⟩
  yld := fun sf F0 B i d F H σ ρ e S hG x H' hy => by
    obtain ⟨rfl, f⟩ := hy
    obtain ⟨v, e1, r1⟩ := r.get e
    have := f vs ((S.gr.sub.pre hG).sqT h)
    rw [e1] at this
    cases this
    exact ⟨F, S, Same.refl F, r1.mono hG⟩
theorem rgD_len (lo hi : Int) : (rgD lo hi).length = (hi - lo).toNat := by unfold rgD; rw [List.length_map, List.length_range]
theorem rgD_get {lo hi : Int} {i : Nat} {d : D} (h : (rgD lo hi)[i]? = some d) : d = .int (lo + (i : Nat)) := by
  unfold rgD at h
  rw [List.getElem?_map] at h
  by_cases q : i < (hi - lo).toNat
  · rw [List.getElem?_range q] at h; exact (Option.some.inj h).symm
  · rw [List.getElem?_eq_none_iff.mpr (by rw [List.length_range]; omega)] at h; cases h
theorem walk_rg {G : Hp} {lo hi : Int} : Walk c (Itr lo (hi - lo).toNat) G (rgD lo hi) where
  go := fun i F H h1 h2 hi => by rw [rgD_len] at hi; exact hi
  stop := fun i F H h1 h2 hi => by rw [rgD_len] at hi; exact hi
  yld := fun sf F0 B i d F H σ ρ e S hG x H' hy => by
    obtain ⟨rfl, rfl⟩ := hy
    rw [rgD_get e]
    exact ⟨F, S, Same.refl F, rfl⟩
theorem walk_rev {G : Hp} {n : Int} : Walk c (Itc (0 + (((n - 0).toNat : Nat) : Int) - 1) (-1) (n - 0).toNat) G (rgD 0 n).reverse where
  go := fun i F H h1 h2 hi => by rw [List.length_reverse, rgD_len] at hi; exact hi
  stop := fun i F H h1 h2 hi => by rw [List.length_reverse, rgD_len] at hi; exact hi
  yld := fun sf F0 B i d F H σ ρ e S hG x H' hy => by
    obtain ⟨rfl, rfl⟩ := hy
    have hi : i < (rgD 0 n).length := by have := lt_of_get e; rwa [List.length_reverse] at this
    rw [List.getElem?_reverse hi] at e
    rw [rgD_get e]
    rw [rgD_len] at hi ⊢
    refine ⟨F, S, Same.refl F, ?_⟩
    show V.int _ = V.int _
    congr 1
    omega
theorem li_list {e : Expr} {w : WE} (hK : X.K = c.K) (h : PE X e (liftE c w)) : PI X tg e (liftI c (wLstI w)) := by
  refine pi_weak (pi_list h) fun σ H Q ⟨F, ρ, P, E, S, w, q, x⟩ => ⟨F, ρ, _, E, S, w, fun d v F1 H1 w1 S1 e1 r1 => ?_, x⟩
  cases d with
  | lst ds =>
    obtain ⟨a, vs, rfl, s1, r2⟩ := r1
    exact ⟨a, rfl, ⟨vs, hK ▸ S1.gr.sub.seq s1⟩, q ds _ F1 H1 w1 S1 e1 (hK ▸ walk_list s1 r2)⟩
  | _ => exact False.elim w1
theorem li_tup {e : Expr} {w : WE} (hK : X.K = c.K) (h : PE X e (liftE c w)) : PI X tg e (liftI c (wTupI w)) := by
  refine pi_weak (pi_tup h) fun σ H Q ⟨F, ρ, P, E, S, w, q, x⟩ => ⟨F, ρ, _, E, S, w, fun d v F1 H1 w1 S1 e1 r1 => ?_, x⟩
  cases d with
  | tup ds =>
    obtain ⟨a, vs, rfl, s1, r2⟩ := r1
    exact ⟨a, rfl, ⟨vs, hK ▸ S1.gr.sub.sqT s1⟩, q ds _ F1 H1 w1 S1 e1 (hK ▸ walk_tup s1 r2)⟩
  | _ => exact False.elim w1
theorem isStr_of {d : D} {P : Str → Prop} (h : isStr d P) : ∃ x, d = .str x ∧ P x := by
  cases d with
  | str x => exact ⟨x, rfl, h⟩
  | _ => exact False.elim h
theorem walk_str {G : Hp} {x : Str} : Walk c (Its x) G (chD x) where
  go := fun i F H _ _ hi => by
    have : (chD x).length = x.cps.size := by unfold chD; rw [List.length_map]; rfl
    rw [this] at hi; exact hi
  stop := fun i F H _ _ hi => by
    have : (chD x).length = x.cps.size := by unfold chD; rw [List.length_map]; rfl
    rw [this] at hi; exact hi
  yld := fun sf F0 B i d F H σ ρ e S hG y H' hy => by
    obtain ⟨rfl, k, hk, rfl⟩ := hy
    refine ⟨F, S, Same.refl F, ?_⟩
    unfold chD at e
    rw [List.getElem?_map, Array.getElem?_toList, hk] at e
    cases e
    rfl
theorem li_str {e : Expr} {w : WE} (h : PE X e (liftE c w)) : PI X tg e (liftI c (wStrI w)) := by
  refine pi_weak (pi_str h) fun σ H Q ⟨F, ρ, P, E, S, w, q, x⟩ => ⟨F, ρ, _, E, S, w, fun d v F1 H1 w1 S1 e1 r1 => ?_, x⟩
  obtain ⟨z, rfl, w1⟩ := isStr_of w1
  cases r1
  exact ⟨z, rfl, q _ _ F1 H1 w1 S1 e1 walk_str⟩
theorem li_rg1 {f : Str} {a : Expr} {p pos : Pos} {w : WE} (hf : f = "range") (hg : Gl X f) (hm : X.mg f = none) (h : PE X a (liftE c w)) (hs : starEach [a] X.env = [(false, eval a X.env)]) : PI X tg (.Call (.Name f p) [a] [] pos) (liftI c (wRg1 w)) := by
  subst hf
  refine pi_weak (pi_range1 hg hm (pa_cons h pa_nil hs) hs) fun σ H Q ⟨F, ρ, P, E, S, w, q, x⟩ => ⟨F, ρ, _, E, S, w, fun d v F1 H1 w1 S1 e1 r1 => ?_, x⟩
  obtain ⟨n, rfl, h1, w1⟩ := isInt_of w1
  cases r1
  refine ⟨n, rfl, h1.1, h1.2, ?_⟩
  have := walk_rg (c := c) (G := F1) (lo := 0) (hi := n)
  rw [Int.sub_zero] at this
  exact q _ _ F1 H1 w1 S1 e1 this
theorem li_rg2 {f : Str} {a b : Expr} {p pos : Pos} {wa wb : WE} (hf : f = "range") (hg : Gl X f) (hm : X.mg f = none) (ha : PE X a (liftE c wa)) (hb : PE X b (liftE c wb)) (hs : starEach [a, b] X.env = [(false, eval a X.env), (false, eval b X.env)]) (hs2 : starEach [b] X.env = [(false, eval b X.env)]) : PI X tg (.Call (.Name f p) [a, b] [] pos) (liftI c (wRg2 wa wb)) := by
  subst hf
  refine pi_weak (pi_range2 hg hm (pa_cons ha (pa_cons hb pa_nil hs2) (by rw [hs, hs2])) hs hs2) fun σ H Q ⟨F, ρ, P, E, S, w, q, x⟩ => ⟨F, ρ, _, E, S, w, fun d v F1 H1 w1 S1 e1 r1 => ?_, x⟩
  obtain ⟨i, rfl, w1⟩ := isInt_of w1
  refine ⟨F1, ρ, _, E, S1, w1, fun d2 v2 F2 H2 w2 S2 e2 r2 => ?_, x.up e1⟩
  obtain ⟨j, rfl, h1, h2, w2⟩ := isInt_of w2
  cases r1; cases r2
  exact ⟨i, j, rfl, ⟨h1.1, h1.2, h2.1, h2.2⟩, q _ _ F2 H2 w2 S2 (e1.trans e2) walk_rg⟩
theorem li_rev1 {f g : Str} {a : Expr} {p p2 pos pos2 : Pos} {w : WE} (hf : f = "range") (hr : g = "reversed") (hg : Gl X f) (hm : X.mg f = none) (hg2 : Gl X g) (hm2 : X.mg g = none) (h : PE X a (liftE c w)) (hs : starEach [a] X.env = (false, eval a X.env) :: starEach [] X.env) : PI X tg (.Call (.Name g p2) [.Call (.Name f p) [a] [] pos] [] pos2) (liftI c (wRev1 w)) := by
  subst hf hr
  refine pi_weak (pi_revR hg2 hm2 (prg_1 hg hm h hs)) fun σ H Q ⟨F, ρ, P, E, S, w, q, x⟩ => ⟨F, ρ, _, E, S, w, fun d v F1 H1 w1 S1 e1 r1 => ?_, x⟩
  obtain ⟨n, rfl, h1, w1⟩ := isInt_of w1
  cases r1
  exact ⟨n, rfl, by decide, by decide, h1.1, h1.2, q _ _ F1 H1 w1 S1 e1 walk_rev⟩
theorem ls_for {iter : Expr} {body : List Stmt} {wi : WI} {g : WG} {sl : List Nat} {b : WS} {pos : Pos} (hp : PassesOwn (model X.prog X.w) X.A X.env X.xe) (hc : X.calm = true) (hi : PI X tg iter (liftI c wi)) (hg : PG X tg (liftG c sl g)) (hb : PSs X body (liftS c b)) (hs : ∀ x, foldedSetIterable iter X.env x = pure x) : PS X (.For tg iter body [] pos) (liftS c (sFor wi g b)) := by
  refine ps_weak (ps_for hp hc hi hg hb hs) fun D0 σ H ⟨F, ρ, A, S, w, q⟩ => ⟨F, ρ, _, _, S, w, fun items J F1 H1 w1 S1 e1 k => ?_, q.qX σ ρ⟩
  refine ⟨fun i m σ' H' => ∃ F' ρ', c.S F' H' σ' ρ' ∧ Same F1 F' ∧ i ≤ items.length ∧ m = items.length - i ∧ forL g b (items.drop i) A ρ', ⟨items.length, F1, ρ, S1, Same.refl F1, Nat.zero_le _, rfl, w1⟩, ?_⟩
  rintro i m σ' H' ⟨F', ρ', S', e', hi, rfl, w'⟩
  by_cases hlt : i < items.length
  · refine .inr ⟨k.go i F' H' e' S'.gr.sub hlt, fun σ2 H2 => ∃ F2 ρ2, c.S F2 H2 σ2 ρ2 ∧ Same F1 F2 ∧ forL g b (items.drop (i + 1)) A ρ2, fun σ2 H2 ⟨F2, ρ2, S2, e2, w2⟩ => ⟨items.length - (i + 1), by omega, F2, ρ2, S2, e2, hlt, rfl, w2⟩, fun x H2 hy => ?_⟩
    have ed : items[i]? = some items[i] := List.getElem?_eq_getElem hlt
    obtain ⟨F2, S2, e2, r2⟩ := k.yld c.sf c.F0 c.B i _ F' H' σ' ρ' ed S' e' x H2 hy
    have el : items.drop i = items[i] :: items.drop (i + 1) := List.drop_eq_getElem_cons hlt
    rw [el] at w'
    refine ⟨F2, ρ', _, _, S2, r2, w', fun ρ3 σ3 F3 H3 w3 S3 e3 _ => ⟨F3, ρ3, _, S3, w3, ?_⟩⟩
    have up : Same F1 F3 := (e'.trans e2).trans e3
    refine ⟨fun ρ4 σ4 F4 H4 w4 S4 e4 => ⟨F4, ρ4, S4, up.trans e4, w4⟩, fun d v F4 H4 w4 S4 e4 r4 => q.rt d v F4 H4 w4 S4 ((e1.trans up).trans e4) r4, fun ρ4 σ4 F4 H4 w4 S4 e4 => q.nx ρ4 σ4 F4 H4 w4 S4 ((e1.trans up).trans e4), fun ρ4 σ4 F4 H4 w4 S4 e4 => ⟨F4, ρ4, S4, up.trans e4, w4⟩, fun x' ρ4 cls dx σ4 F4 H4 w4 S4 e4 r4 => q.xe x' ρ4 cls dx σ4 F4 H4 w4 S4 ((e1.trans up).trans e4) r4, fun ds a vs F4 H4 w4 S4 e4 => q.ro ds a vs F4 H4 w4 S4 ((e1.trans up).trans e4)⟩
  · refine .inl ⟨k.stop i F' H' e' S'.gr.sub (by omega), ?_⟩
    rw [List.drop_eq_nil_of_le (by omega)] at w'
    exact q.nx ρ' σ' F' H' w' S' (e1.trans e')
theorem ls_while {t : Expr} {body : List Stmt} {wt : WT} {b : WS} {pos : Pos} (hp : PassesOwn (model X.prog X.w) X.A X.env X.xe) (ht : PT X t (liftT c wt)) (hb : PSs X body (liftS c b)) : PS X (.While t body [] pos) (liftS c (sWhile wt b)) := by
  refine ps_weak (ps_while hp ht hb) fun D0 σ H ⟨F, ρ, A, S, ⟨n, w⟩, q⟩ => ?_
  refine ⟨fun m σ' H' => ∃ F' ρ', c.S F' H' σ' ρ' ∧ Same F F' ∧ whileN wt b m A ρ', ⟨n, F, ρ, S, Same.refl F, w⟩, ?_⟩
  rintro m σ' H' ⟨F', ρ', S', e', w'⟩
  cases m with
  | zero => exact w'.elim
  | succ m =>
    refine ⟨F', ρ', _, _, S', w', fun k F1 H1 w1 S1 e1 => ?_, ((q.up e').qX σ' ρ')⟩
    cases k with
    | false => exact q.nx ρ' σ' F1 H1 w1 S1 (e'.trans e1)
    | true =>
      refine ⟨fun σ2 H2 => ∃ F2 ρ2, c.S F2 H2 σ2 ρ2 ∧ Same F F2 ∧ whileN wt b m A ρ2, fun σ2 H2 ⟨F2, ρ2, S2, e2, w2⟩ => ⟨m, Nat.lt_succ_self m, F2, ρ2, S2, e2, w2⟩, F1, ρ', _, S1, w1, ?_⟩
      have up : Same F F1 := e'.trans e1
      exact ⟨fun ρ4 σ4 F4 H4 w4 S4 e4 => ⟨F4, ρ4, S4, up.trans e4, w4⟩, fun d v F4 H4 w4 S4 e4 r4 => q.rt d v F4 H4 w4 S4 (up.trans e4) r4, fun ρ4 σ4 F4 H4 w4 S4 e4 => q.nx ρ4 σ4 F4 H4 w4 S4 (up.trans e4), fun ρ4 σ4 F4 H4 w4 S4 e4 => ⟨F4, ρ4, S4, up.trans e4, w4⟩, fun x' ρ4 cls dx σ4 F4 H4 w4 S4 e4 r4 => q.xe x' ρ4 cls dx σ4 F4 H4 w4 S4 (up.trans e4) r4, fun ds a vs F4 H4 w4 S4 e4 => q.ro ds a vs F4 H4 w4 S4 (up.trans e4)⟩
end
end Tr

namespace Tr
open PySem PySem.Spec PyProof.Rows L2

/-! ### comprehensions -/
abbrev Ct.at (c : Ct) (B : Hp) : Ct := { c with B := B, W := fun _ _ _ _ => False }
def wYes : WT := fun _ P _ => P true
def lcL (g : WG) (t : WT) (e : WE) (ρ : List Slot) : List D → List D → (List D → Prop) → Prop
  | [], acc, P => P acc
  | d :: r, acc, P => g d ρ fun ρ2 => t ρ2 (fun b => if b = true then e ρ2 (fun y => acc.length < sizeLine ∧ lcL g t e ρ r (acc ++ [y]) P) (fun _ => False) else lcL g t e ρ r acc P) (fun _ => False)
def noOwn (ρ : List Slot) (vs : List Nat) : Bool := vs.all fun v => match ρ[v]? with | some (.own _) => false | _ => true
def wLc (vs : List Nat) (wi : WI) (g : WG) (t : WT) (e : WE) : WE := fun ρ P E => noOwn ρ vs = true ∧ wi ρ (fun items => lcL g t e (wipeR ρ vs) items [] fun acc => P (.lst acc)) E
/-- the heap without p -/
def cut (H : Hp) (p : Addr) : Hp := fun b => if b = p then none else H b
theorem cut_same {H : Hp} {p : Addr} : cut H p p = none := by unfold cut; rw [if_pos rfl]
theorem cut_ne {H : Hp} {p b : Addr} (h : b ≠ p) : cut H p b = H b := by unfold cut; rw [if_neg h]
theorem upd_cut {H : Hp} {p : Addr} {o : HO} : upd (cut H p) p o = upd H p o := by
  funext b; unfold upd cut; split <;> rfl
theorem cut_upd {H : Hp} {p : Addr} {o : HO} (h : H p = some o) : upd (cut H p) p o = H := by
  funext b; unfold upd cut; split
  · rename_i q; rw [q, h]
  · rfl

section
variable {c : Ct} {F H : Hp} {σ : L2.St} {ρ : List Slot}
theorem Stt.set_emp (S : c.S F H σ ρ) (i : Nat) : c.S F H (σ.set i none) (ρ.set i .emp) := by
  refine ⟨S.gr, by rw [List.length_set, List.length_set]; exact S.len, fun j t e => ?_, fun j k a o p h1 h2 h3 h4 => ?_, fun j k ns ds h => ?_⟩
  · by_cases hj : i = j
    · subst hj
      have hi : i < ρ.length := by have := lt_of_get e; rwa [List.length_set] at this
      rw [List.getElem?_set_self hi] at e
      cases e
      trivial
    · rw [List.getElem?_set_ne hj] at e ⊢
      exact S.slot j t e
  · have nj : ∀ {j : Nat} {o : O}, (ρ.set i .emp)[j]? = some (.own o) → i ≠ j ∧ ρ[j]? = some (.own o) := fun {j o} h => by
      by_cases hj : i = j
      · subst hj
        have hi : i < ρ.length := by have := lt_of_get h; rwa [List.length_set] at this
        rw [List.getElem?_set_self hi] at h
        cases h
      · rw [List.getElem?_set_ne hj] at h
        exact ⟨hj, h⟩
    obtain ⟨n1, g1⟩ := nj h1
    obtain ⟨n2, g2⟩ := nj h2
    rw [List.getElem?_set_ne n1] at h3
    rw [List.getElem?_set_ne n2] at h4
    exact S.sep j k a o p g1 g2 h3 h4
  · by_cases hj : i = j
    · subst hj
      rw [List.getElem?_set_self (by have := lt_of_get h; rwa [List.length_set] at this)] at h
      cases h
    · rw [List.getElem?_set_ne hj] at h ⊢
      exact S.inst j k ns ds h
theorem Stt.wipe (S : c.S F H σ ρ) : ∀ vs : List Nat, c.S F H (L2.wipe σ vs) (wipeR ρ vs)
  | [] => S
  | v :: vs => (Stt.wipe S vs).set_emp v
/-- into the block: p is held fast -/
theorem Stt.enter (S : c.S F H σ ρ) {p : Addr} (np : H p = none) (o : HO) : (c.at (upd c.B p o)).S F (upd H p o) σ ρ := by
  have sH : Same H (upd H p o) := fun a x e => by rw [upd_ne (ne_of_none e np)]; exact e
  have fp : F p = none := S.gr.sub.free np
  have f0 : c.F0 p = none := S.gr.old.free fp
  refine ⟨⟨⟨fun a x e n => ?_, fun a e => ?_⟩, S.gr.sub.trans sH, fun a x e => ?_, S.gr.old, S.gr.cel.up sH⟩, S.len, fun i t e => ?_, S.sep, S.inst⟩
  · have e : upd c.B p o a = some x := e
    by_cases q : a = p
    · subst q; rw [upd_same] at e ⊢; exact e
    · rw [upd_ne q] at e ⊢; exact S.gr.keep.p a x e n
  · show upd c.B p o a = none
    by_cases q : a = p
    · subst q; rw [upd_same] at e; cases e
    · rw [upd_ne q] at e ⊢; exact S.gr.keep.d a e
  · rcases S.gr.new a x e with z | z
    · exact .inl z
    · by_cases q : a = p
      · subst q; rw [fp] at e; cases e
      · exact .inr (show upd c.B p o a = none by rw [upd_ne q]; exact z)
  · have z := S.slot i t e
    cases t with
    | emp => trivial
    | val d => exact z
    | own ob =>
      obtain ⟨a, u, e1, e2, e3, e4, e5⟩ := z
      exact ⟨a, u, e1, sH a u e2, e3, e4, show upd c.B p o a = none by rw [upd_ne (ne_of_none e2 np)]; exact e5⟩
/-- out of it -/
theorem Stt.leave {p : Addr} {o : HO} (S : (c.at (upd c.B p o)).S F H σ ρ) (nb : c.B p = none) (n0 : c.F0 p = none) : H p = some o ∧ c.S F (cut H p) σ ρ := by
  have hp : H p = some o := S.gr.keep.p p o upd_same fun i z => by rw [show (c.at (upd c.B p o)).F0 p = c.F0 p from rfl, n0] at z; cases z
  have fp : F p = none := by
    cases e : F p with
    | none => rfl
    | some x =>
      rcases S.gr.new p x e with z | z
      · rw [show (c.at (upd c.B p o)).F0 p = c.F0 p from rfl, n0] at z; cases z
      · rw [show (c.at (upd c.B p o)).B p = some o from upd_same] at z; cases z
  have cd : ∀ {a : Addr}, cut H p a = none → a = p ∨ H a = none := fun {a} z => by
    by_cases q : a = p
    · exact .inl q
    · rw [cut_ne q] at z; exact .inr z
  refine ⟨hp, ⟨⟨⟨fun a x e n => ?_, fun a e => ?_⟩, ⟨fun a x e n => ?_, fun a e => ?_⟩, fun a x e => ?_, S.gr.old, ⟨fun a i e => ?_, S.gr.cel.tb⟩⟩, S.len, fun i t e => ?_, S.sep, S.inst⟩⟩
  · have q : a ≠ p := ne_of_none e nb
    rw [cut_ne q]
    exact S.gr.keep.p a x (by rw [show (c.at (upd c.B p o)).B a = upd c.B p o a from rfl, upd_ne q]; exact e) n
  · rcases cd e with z | z
    · subst z; exact nb
    · have := S.gr.keep.d a z
      rw [show (c.at (upd c.B p o)).B a = upd c.B p o a from rfl] at this
      by_cases q : a = p
      · subst q; exact nb
      · rw [upd_ne q] at this; exact this
  · have q : a ≠ p := ne_of_none e fp
    rw [cut_ne q]
    exact S.gr.sub.p a x e n
  · rcases cd e with z | z
    · subst z; exact fp
    · exact S.gr.sub.d a z
  · have q : a ≠ p := ne_of_none e fp
    rcases S.gr.new a x e with z | z
    · exact .inl z
    · rw [show (c.at (upd c.B p o)).B a = upd c.B p o a from rfl, upd_ne q] at z
      exact .inr z
  · obtain ⟨w, h1, h2⟩ := S.gr.cel.m a i e
    exact ⟨w, by rw [cut_ne (ne_of_none e fp)]; exact h1, h2⟩
  · have z := S.slot i t e
    cases t with
    | emp => trivial
    | val d => exact z
    | own ob =>
      obtain ⟨a, u, e1, e2, e3, e4, e5⟩ := z
      have q : a ≠ p := by
        intro q
        subst q
        rw [show (c.at (upd c.B a o)).B a = some o from upd_same] at e5
        cases e5
      rw [show (c.at (upd c.B p o)).B a = upd c.B p o a from rfl, upd_ne q] at e5
      exact ⟨a, u, e1, by rw [cut_ne q]; exact e2, e3, e4, e5⟩

/-- over every base -/
def anyE (c : Ct) (w : WE) : TE := fun σ H Q => ∃ B, liftE (c.at B) w σ H Q
def anyT (c : Ct) (w : WT) : TT := fun σ H Q => ∃ B, liftT (c.at B) w σ H Q
def anyG (c : Ct) (sl : List Nat) (g : WG) : TG := fun v σ H Q => ∃ B, liftG (c.at B) sl g v σ H Q
theorem any_e {X : Cx} {e : Expr} {w : WE} (h : ∀ B, PE X e (liftE (c.at B) w)) : PE X e (anyE c w) := ⟨fun pins s σ H Q I ⟨B, q⟩ => (h B).run pins s σ H Q I q⟩
theorem any_t {X : Cx} {e : Expr} {w : WT} (h : ∀ B, PT X e (liftT (c.at B) w)) : PT X e (anyT c w) := ⟨fun pins s σ H Q I ⟨B, q⟩ => (h B).run pins s σ H Q I q⟩
theorem any_g {X : Cx} {e : Expr} {sl : List Nat} {g : WG} (h : ∀ B, PG X e (liftG (c.at B) sl g)) : PG X e (anyG c sl g) := ⟨fun pins s σ H v u Q I r ⟨B, q⟩ => (h B).run pins s σ H v u Q I r q⟩
/-- the tests of a comprehension -/
def TestOk (tt : TT) (c : Ct) (t : WT) : Prop := ∀ (B : Hp) (F H : Hp) (σ : L2.St) (ρ : List Slot) (P : Bool → Prop) (Q : Bool → Hp → Prop), (c.at B).S F H σ ρ → t ρ P (fun _ => False) → (c.at B).qB F σ ρ P Q → tt σ H Q
theorem test_any {t : WT} : TestOk (anyT c t) c t := fun B F H σ ρ P Q S w q => ⟨B, F, ρ, P, _, S, w, q, fun _ _ _ _ _ z => z.elim⟩
theorem test_yes : TestOk tYes c wYes := fun B F H σ ρ P Q S w q => q true F H w S (Same.refl F)
/-- the slots that the block forgot -/
theorem Stt.unwipe {F2 H2 : Hp} {vs : List Nat} (S : c.S F H σ ρ) (S2 : c.S F2 H2 (L2.wipe σ vs) (wipeR ρ vs)) (e : Same F F2) (no : noOwn ρ vs = true) : c.S F2 H2 σ ρ := by
  have out : ∀ (us : List Nat) (j : Nat), j ∉ us → (L2.wipe σ us)[j]? = σ[j]? ∧ (wipeR ρ us)[j]? = ρ[j]? := by
    intro us
    induction us with
    | nil => intro j _; exact ⟨rfl, rfl⟩
    | cons a r ih =>
      intro j h
      have h1 : a ≠ j := fun z => h (z ▸ List.mem_cons_self)
      have h2 := ih j fun z => h (List.mem_cons_of_mem _ z)
      unfold L2.wipe wipeR
      rw [List.getElem?_set_ne h1, List.getElem?_set_ne h1]
      exact h2
  refine ⟨S2.gr, S.len, fun j t ej => ?_, S.sep, S.inst⟩
  by_cases hj : j ∈ vs
  · have z := S.slot j t ej
    cases t with
    | emp => trivial
    | val d => obtain ⟨v, h1, h2⟩ := z; exact ⟨v, h1, h2.mono e⟩
    | own o =>
      have := List.all_eq_true.mp no j hj
      rw [ej] at this
      cases this
  · obtain ⟨h1, h2⟩ := out vs j hj
    have z := S2.slot j t (by rw [h2]; exact ej)
    rw [h1] at z
    exact z
theorem lc_read {vs sl : List Nat} {wi : WI} {g : WG} {t : WT} {tt : TT} {e : WE} {Q : VK} (hsl : ∀ i ∈ sl, i ∈ vs) (ht : TestOk tt c t) : liftF c (wLc vs wi g t e) σ H Q → tLc (liftI c wi) (anyG c sl g) tt (anyE c e) vs σ H Q := by
  rintro ⟨F, ρ, P, E, S, ⟨no, w⟩, q, x⟩
  refine ⟨F, ρ, _, E, S, w, fun items J F1 H1 w1 S1 e1 k Dl nD => ?_, x⟩
  have f0 : c.F0 Dl = none := S1.gr.old.free (S1.gr.sub.free nD)
  have b0 : c.B Dl = none := S1.gr.keep.free nD
  refine ⟨fun i m H' => ∃ F' G acc vacc, H' = upd G Dl (.lst vacc) ∧ G Dl = none ∧ c.S F' G σ ρ ∧ Same F1 F' ∧ i ≤ items.length ∧ m = items.length - i ∧ Rs c.K c.T F' acc vacc ∧ lcL g t e (wipeR ρ vs) (items.drop i) acc (fun acc => P (.lst acc)),
    ⟨items.length, F1, H1, [], [], rfl, nD, S1, Same.refl F1, Nat.zero_le _, rfl, rfl, w1⟩, ?_⟩
  rintro i m H' ⟨F', G, acc, vacc, rfl, gD, S', e', hi, rfl, ra, w'⟩
  have SE := S'.enter gD (.lst vacc)
  by_cases hlt : i < items.length
  · refine .inr ⟨k.go i F' _ e' SE.gr.sub hlt, fun H2 => ∃ F2 G2 acc2 vacc2, H2 = upd G2 Dl (.lst vacc2) ∧ G2 Dl = none ∧ c.S F2 G2 σ ρ ∧ Same F1 F2 ∧ Rs c.K c.T F2 acc2 vacc2 ∧ lcL g t e (wipeR ρ vs) (items.drop (i + 1)) acc2 (fun acc => P (.lst acc)),
      fun H2 ⟨F2, G2, acc2, vacc2, h1, h2, h3, h4, h5, h6⟩ => ⟨items.length - (i + 1), by omega, F2, G2, acc2, vacc2, h1, h2, h3, h4, hlt, rfl, h5, h6⟩, fun y H2 hy => ?_⟩
    have ed : items[i]? = some items[i] := List.getElem?_eq_getElem hlt
    obtain ⟨F2, S2, e2, r2⟩ := k.yld _ _ _ i _ F' _ σ ρ ed SE e' y H2 hy
    have el : items.drop i = items[i] :: items.drop (i + 1) := List.drop_eq_getElem_cons hlt
    rw [el] at w'
    have S2w := Stt.wipe (c := c.at (upd c.B Dl (.lst vacc))) S2 vs
    refine ⟨_, F2, _, _, _, S2w, r2, w', fun ρ3 σ3 F3 H3 w3 S3 e3 on => ⟨(on vs hsl).1.trans (wipe_all fun _ z => z), ?_⟩⟩
    -- what the block leaves, seen from outside
    have out : ∀ (F4 H4 : Hp), (c.at (upd c.B Dl (.lst vacc))).S F4 H4 σ3 ρ3 → Same F2 F4 → H4 Dl = some (.lst vacc) ∧ c.S F4 (cut H4 Dl) σ ρ := fun F4 H4 S4 e4 => by
      have S5 := Stt.wipe (c := c.at (upd c.B Dl (.lst vacc))) S4 vs
      rw [(on vs hsl).1, (on vs hsl).2, wipe_all fun _ z => z, wipeR_all fun _ z => z] at S5
      obtain ⟨h1, S6⟩ := S5.leave b0 f0
      exact ⟨h1, Stt.unwipe S' S6 (e2.trans e4) no⟩
    have up : Same F1 F2 := e'.trans e2
    refine ht _ F3 H3 σ3 ρ3 _ _ S3 w3 fun b F4 H4 w4 S4 e4 => ?_
    cases b with
    | false =>
      obtain ⟨h1, S5⟩ := out F4 H4 S4 (e3.trans e4)
      exact ⟨F4, cut H4 Dl, acc, vacc, (cut_upd h1).symm, cut_same, S5, up.trans (e3.trans e4), ra.mono (e2.trans (e3.trans e4)), w4⟩
    | true =>
      refine ⟨_, F4, ρ3, _, _, S4, w4, fun d v F5 H5 w5 S5 e5 r5 => ?_, fun _ _ _ _ _ z => z.elim⟩
      obtain ⟨h1, S6⟩ := out F5 H5 S5 ((e3.trans e4).trans e5)
      refine ⟨vacc, h1, by rw [← ra.length]; exact w5.1, F5, cut H5 Dl, acc ++ [d], vacc ++ [v], upd_cut.symm, cut_same, S6, up.trans ((e3.trans e4).trans e5), (ra.mono (e2.trans ((e3.trans e4).trans e5))).append (Rs.one r5), w5.2⟩
  · have en : i = items.length := by omega
    subst en
    refine .inl ⟨k.stop _ F' _ e' SE.gr.sub (Nat.le_refl _), ?_⟩
    rw [List.drop_eq_nil_of_le (Nat.le_refl _)] at w'
    exact q acc vacc Dl F' G w' S' (e1.trans e') ra gD
end
section
variable {c : Ct} {X : Cx}
theorem lf_lc {elt tg iter : Expr} {ifs : List Expr} {scope : Scope} {own : List (Str × Nat)} {pos : Pos} {wi : WI} {sl : List Nat} {g : WG} {t : WT} {tt : TT} {e : WE} (hc : X.calm = true) (hN : X.N.Nodup) (hi : PI X tg iter (liftI c wi)) (ok : BlkOk X.N X.env.scope scope own) (hsl : ∀ i ∈ sl, i ∈ own.map (·.2)) (htt : TestOk tt c t)
    (hg : ∀ (s : Shared) (H : Hp) (C : Addr) (cl : List (Str × Addr)) (fp : List Addr) (B : Hp), PG (X.blk s H scope (compEnvC scope cl C X.env) fp) tg (liftG (c.at B) sl g))
    (ht : ∀ (s : Shared) (H : Hp) (C : Addr) (cl : List (Str × Addr)) (fp : List Addr), PTs (X.blk s H scope (compEnvC scope cl C X.env) fp) ifs tt)
    (he : ∀ (s : Shared) (H : Hp) (C : Addr) (cl : List (Str × Addr)) (fp : List Addr) (B : Hp), PE (X.blk s H scope (compEnvC scope cl C X.env) fp) elt (liftE (c.at B) e)) (hs : ∀ x, foldedSetIterable iter X.env x = pure x) :
    PE X (.ListComp elt [⟨tg, iter, ifs, 0⟩] scope pos) (liftF c (wLc (own.map (·.2)) wi g t e)) :=
  pe_weak (pe_lc hc hN hi ok (fun s H C cl fp => any_g (hg s H C cl fp)) ht (fun s H C cl fp => any_e (he s H C cl fp)) hs) fun σ H Q => lc_read hsl htt
/-- y = [..] -/
theorem ls_lc {i : Nat} {y : Str} {py : Pos} {elt tg iter : Expr} {ifs : List Expr} {scope : Scope} {own : List (Str × Nat)} {pos spos : Pos} {wi : WI} {sl : List Nat} {g : WG} {t : WT} {tt : TT} {e : WE} (hc : X.calm = true) (hN : X.N.Nodup) (hy : X.N[i]? = some y) (hyl : X.env.scope.names.lookup y = some .local)
    (hsw : swapsWith (.ListComp elt [⟨tg, iter, ifs, 0⟩] scope pos) (some (.Name y py)) spos.line X.env = pure true) (hi : PI X tg iter (liftI c wi)) (ok : BlkOk X.N X.env.scope scope own) (hsl : ∀ i ∈ sl, i ∈ own.map (·.2)) (htt : TestOk tt c t)
    (hg : ∀ (s : Shared) (H : Hp) (C : Addr) (cl : List (Str × Addr)) (fp : List Addr) (B : Hp), PG (X.blk s H scope (compEnvC scope cl C X.env) fp) tg (liftG (c.at B) sl g))
    (ht : ∀ (s : Shared) (H : Hp) (C : Addr) (cl : List (Str × Addr)) (fp : List Addr), PTs (X.blk s H scope (compEnvC scope cl C X.env) fp) ifs tt)
    (he : ∀ (s : Shared) (H : Hp) (C : Addr) (cl : List (Str × Addr)) (fp : List Addr) (B : Hp), PE (X.blk s H scope (compEnvC scope cl C X.env) fp) elt (liftE (c.at B) e)) (hs : ∀ x, foldedSetIterable iter X.env x = pure x) :
    PS X (.Assign [.Name y py] (.ListComp elt [⟨tg, iter, ifs, 0⟩] scope pos) spos) (tAsg (liftF c (wLc (own.map (·.2)) wi g t e)) (gName i)) :=
  ps_weak (ps_setLc hc hN hy hyl hsw hi ok (fun s H C cl fp => any_g (hg s H C cl fp)) ht (fun s H C cl fp => any_e (he s H C cl fp)) hs) fun D0 σ H => lc_read hsl htt
theorem ls_lcV {i : Nat} {st : Stmt} {w : WE} (h : PS X st (tAsg (liftF c w) (gName i))) : PS X st (liftS c (sSet (gN i) w)) := by
  refine ps_weak h fun D0 σ H ⟨F, ρ, A, S, w, q⟩ => lf_up ?_
  exact ⟨F, ρ, _, _, S, w, fun d v F1 H1 w1 S1 e1 r1 => q.nx _ _ F1 H1 w1 (S1.put i r1) e1, q.qX σ ρ⟩
theorem ls_lcO {i : Nat} {st : Stmt} {w : WE} (h : PS X st (tAsg (liftF c w) (gName i))) : PS X st (liftS c (sNew i w)) := by
  refine ps_weak h fun D0 σ H ⟨F, ρ, A, S, w, q⟩ => ?_
  exact ⟨F, ρ, _, _, S, w, fun ds vs p F1 H1 w1 S1 e1 r1 np => q.nx _ _ F1 _ w1 (S1.own i np (o := .lst ds) ⟨vs, rfl, r1⟩ fun _ _ _ z => nomatch z) e1, q.qX σ ρ⟩
end
end Tr

namespace Tr
open PySem PySem.Spec PyProof.Rows L2

/-! ### promises -/
/-- behind a call: what stood stands, what is frozen grew -/
structure Post (K : PySem.W.Frag) (T : Tab) (F H F' H' : Hp) : Prop where
  keep : Keep F H H'
  old : Same F F'
  sub : Sub F' H'
  new : ∀ a o, F' a = some o → F a = some o ∨ H a = none
  cel : CelOk K T F' H'
def spF (K : PySem.W.Frag) (T : Tab) (n : Nat) (w : List D → WD) : Sp := fun vs H Q E => vs.length = n ∧ ∃ F ds P Ex, SubC K T F H ∧ Rs K T F ds vs ∧ w ds P Ex ∧
  (∀ d v F' H', P d → Post K T F H F' H' → R K T F' d v → Q v H') ∧ (∀ x cls dx F' H', Ex x → Post K T F H F' H' → RX K T F' H' x cls dx → E cls dx H')
/-- what returns a list of its own -/
abbrev WO := List D → (List D → Prop) → (Exc → Prop) → Prop
def spO (K : PySem.W.Frag) (T : Tab) (n : Nat) (w : WO) : Sp := fun vs H Q E => vs.length = n ∧ ∃ F ds P Ex, SubC K T F H ∧ Rs K T F ds vs ∧ w ds P Ex ∧
  (∀ rs a us F' H', P rs → Post K T F H F' H' → H' a = some (.lst us) → F' a = none → H a = none → Rs K T F' rs us → Q (.ref a) H') ∧ (∀ x cls dx F' H', Ex x → Post K T F H F' H' → RX K T F' H' x cls dx → E cls dx H')
theorem spO_of {K : PySem.W.Frag} {T : Tab} {n : Nat} {w : WO} {vs : List V} {H : Hp} {Q : VK} {E : XK} (h : spF K T n (fun ds P E => w ds (fun r => P (.lst r)) E) vs H Q E) : spO K T n w vs H Q E := by
  obtain ⟨hl, F, ds, P, Ex, sF, r, hw, q, x⟩ := h
  refine ⟨hl, F, ds, _, Ex, sF, r, hw, fun rs a us F' H' hp p e1 e2 e3 rr => ?_, x⟩
  have sF' : Same F' (upd F' a (.lst us)) := fun b o e => by rw [upd_ne (ne_of_none e e2)]; exact e
  refine q (.lst rs) (.ref a) (upd F' a (.lst us)) H' hp ⟨p.keep, p.old.trans sF', p.sub.add e1, fun b o e => ?_, p.cel.add (fun _ z => nomatch z) sF'⟩ ⟨a, us, rfl, .inl (.inl upd_same), rr.mono sF'⟩
  · by_cases z : b = a
    · subst z; exact .inr e3
    · rw [upd_ne z] at e; exact p.new b o e
/-- a new instance of the class k at p is filled -/
def spI (K : PySem.W.Frag) (T : Tab) (n k : Nat) (w : List D → WD) : Sp := fun vs H Q E => vs.length = n ∧ ∃ p dx us F ds P Ex, vs = .ref p :: us ∧ H p = some (.ins (T.cad k) dx []) ∧ F p = none ∧ SubC K T F H ∧ Rs K T F ds us ∧ w ds P Ex ∧
  (∀ ns es vs' dx' F' H', P (.ins k ns es) → Post K T F (cut H p) F' H' → F' p = none → H' p = some (.ins (T.cad k) dx' ((ns.map T.nm).zip vs')) → ns.length = vs'.length → Rs K T F' es vs' → Q .non H') ∧
  (∀ x cls dx F' H', Ex x → Post K T F (cut H p) F' H' → RX K T F' H' x cls dx → E cls dx H')

section
variable {c : Ct} {X : Cx} {F H : Hp} {σ : L2.St} {ρ : List Slot}
/-- a call in a body: the state goes on -/
theorem Stt.called {F' H' : Hp} (S : c.S F H σ ρ) (p : Post c.K c.T F H F' H') : c.S F' H' σ ρ := by
  refine ⟨⟨S.gr.keep.trans p.keep S.gr.new, p.sub, fun a o e => ?_, S.gr.old.trans p.old, p.cel⟩, S.len, fun i t e => ?_, S.sep, S.inst⟩
  · rcases p.new a o e with z | z
    · exact S.gr.new a o z
    · exact .inr (S.gr.keep.free z)
  · have z := S.slot i t e
    cases t with
    | emp => trivial
    | val d => obtain ⟨v, e1, r⟩ := z; exact ⟨v, e1, r.mono p.old⟩
    | own ob =>
      obtain ⟨a, u, e1, e2, e3, e4, e5⟩ := z
      refine ⟨a, u, e1, p.keep.p a u e2 (fun i z => by rw [e4] at z; cases z), e3.mono p.old, ?_, e5⟩
      cases q : F' a with
      | none => rfl
      | some x =>
        rcases p.new a x q with z | z
        · rw [e4] at z; cases z
        · rw [e2] at z; cases z
theorem call_F {n : Nat} {w : List D → WD} {vs : List V} {ds : List D} {P : D → Prop} {E : Exc → Prop} {Q : VK} (S : c.S F H σ ρ) (hl : vs.length = n) (r : Rs c.K c.T F ds vs) (h : w ds P E) (q : c.qV F σ ρ P Q) (x : c.qX F σ ρ E) : spF c.K c.T n w vs H Q (L2.WE c.W σ) :=
  ⟨hl, F, ds, P, E, ⟨S.gr.sub, S.gr.cel⟩, r, h, fun d v F' H' h1 p r1 => q d v F' H' h1 (S.called p) p.old r1, fun y cls dx F' H' h1 p r1 => x y cls dx F' H' h1 (S.called p) p.old r1⟩
theorem call_I {n k : Nat} {w : List D → WD} {vs : List V} {ds : List D} {P : D → Prop} {E : Exc → Prop} {Q : VK} (S : c.S F H σ ρ) (hl : vs.length + 1 = n) (r : Rs c.K c.T F ds vs) (h : w ds P E) (q : c.qV F σ ρ P Q) (x : c.qX F σ ρ E) :
    ∀ p dx, H p = none → H dx = none → dx ≠ p → spI c.K c.T n k w (.ref p :: vs) (upd (upd H dx (.own p)) p (.ins (c.T.cad k) dx [])) (fun v H2 => v = .non ∧ Q (.ref p) H2) (L2.WE c.W σ) := fun p dx np nd ne => by
  have fp : F p = none := S.gr.sub.free np
  have c1 : cut (upd (upd H dx (.own p)) p (.ins (c.T.cad k) dx [])) p = cut (upd H dx (.own p)) p := by
    funext b; unfold cut upd; split <;> simp_all
  have sub1 : Same H (cut (upd H dx (.own p)) p) := fun a o e => by
    rw [cut_ne (ne_of_none e np), upd_ne (ne_of_none e nd)]; exact e
  have sH : Same H (upd (upd H dx (.own p)) p (.ins (c.T.cad k) dx [])) := fun a o e' => by
    rw [upd_ne (ne_of_none e' np), upd_ne (ne_of_none e' nd)]; exact e'
  have sF : SubC c.K c.T F (upd (upd H dx (.own p)) p (.ins (c.T.cad k) dx [])) := ⟨S.gr.sub.trans sH, S.gr.cel.up sH⟩
  have post : ∀ {F' H' : Hp}, Post c.K c.T F (cut (upd (upd H dx (.own p)) p (.ins (c.T.cad k) dx [])) p) F' H' → Post c.K c.T F H F' H' := fun {F' H'} a => by
    rw [c1] at a
    refine ⟨Keep.pre sub1 a.keep, a.old, a.sub, fun b o e => ?_, a.cel⟩
    rcases a.new b o e with z | z
    · exact .inl z
    · exact .inr (sub1.free z)
  refine ⟨by simpa using hl, p, dx, vs, F, ds, P, E, rfl, upd_same, fp, sF, r, h, fun ns es vs' dx' F' H' h1 a fp' hp l re => ⟨rfl, ?_⟩, fun y cls dx F' H' h1 a r1 => x y cls dx F' H' h1 (S.called (post a)) a.old r1⟩
  have p0 := post a
  have sF' : Same F' (upd F' p (.ins (c.T.cad k) dx' ((ns.map c.T.nm).zip vs'))) := fun b o e => by rw [upd_ne (ne_of_none e fp')]; exact e
  have p1 : Post c.K c.T F H (upd F' p (.ins (c.T.cad k) dx' ((ns.map c.T.nm).zip vs'))) H' := ⟨p0.keep, a.old.trans sF', a.sub.add hp, fun b o e => (by
    by_cases z : b = p
    · subst z; exact .inr np
    · rw [upd_ne z] at e; exact p0.new b o e), a.cel.add (fun _ z => nomatch z) sF'⟩
  exact q _ _ _ H' h1 (S.called p1) p1.old ⟨p, dx', vs', rfl, upd_same, l, re.mono sF'⟩

/-! ### the calls -/
def wMeth (mid : Nat) (mt : Nat → Option (List D → WD)) (wo : WE) (wa : WA) : WE := fun ρ P E => wo ρ (fun o => match o with
  | .ins k ns vs => ns.contains mid = false ∧ hasI (mt k) fun f => wa ρ (fun ds => f (.ins k ns vs :: ds) P E) E
  | _ => False) E
theorem lv_call {k : Nat} {f : Addr} {fd : FuncData} {ps : List Str} {w : List D → WD} {x : Str} {p pos : Pos} {e : Expr} {es : List Expr} {wa : WA} (tk : Takes X c.W)
    (Fo : FnOk X.prog X.w X.K X.mg X.base (L2.CX X.prog X.w) k f fd ps (spF c.K c.T ps.length w)) (hw : ∀ ds P E, w ds P E → ds.length = ps.length) (hr : Room k X.A) (hg : Gl X x) (hm : X.mg x = some (.ref f)) (hk : PySem.W.keepIn X.K (.ref f) = true) (hb : Binds X.K fd ps [])
    (ha : PA X (e :: es) (liftA c wa)) (hdb : (x == ("__debug__" : Str)) = false) (he : starEach (e :: es) X.env = (false, eval e X.env) :: starEach es X.env) (hpl : (backTo pos (starEach es X.env)).any (·.1) = false) :
    PE X (.Call (.Name x p) (e :: es) [] pos) (liftE c (wN w wa)) := by
  refine pe_weak (pe_callS Fo hr hg hm hk hb (fun σ => passAt tk σ) ha hdb he hpl) fun σ H Q ⟨F, ρ, P, E, S, w, q, x⟩ => ⟨F, ρ, _, E, S, w, fun ds vs F1 H1 w1 S1 e1 r1 => ?_, x⟩
  exact call_F S1 (by rw [← r1.length]; exact hw _ _ _ w1) r1 w1 (q.up e1) (x.up e1)
theorem run_makeS {CX : CXT} {k : Nat} {C f : Addr} {fd : FuncData} {ps : List Str} {sp : Sp} {E : XK} {pins : List (Addr × Obj)} {s : Shared} {Q : VK} {us : List Value} {vs : List V} (M : Mk X.K C f) (Fo : FnOk X.prog X.w X.K X.mg X.base CX k f fd ps sp) (hr : Room (k + 1) X.A) (hb : Binds X.K fd ps [])
    (hx : PassesAt CX X σ E) (I : Inv X pins σ H s) (r : Vals vs us)
    (h : ∀ x dx, H x = none → H dx = none → dx ≠ x → sp (.ref x :: vs) (upd (upd H dx (.own x)) x (.ins C dx [])) (fun v H2 => v = .non ∧ Q (.ref x) H2) E) :
    wpAny (model X.prog X.w) X.A (call (.ref C) us) (EP X pins σ Q) X.xe s := by
  have hq := h (s.heap.objs.size + 1) s.heap.objs.size (I.hok.fresh (Nat.le_succ _)) (I.hok.fresh (Nat.le_refl _)) (Nat.ne_of_lt (Nat.lt_succ_self _))
  have I2 := Inv.made (C := C) I
  have r2 : Vals (V.ref (s.heap.objs.size + 1) :: vs) (Value.ref (s.heap.objs.size + 1) :: us) := .cons rfl r
  have hl : (Value.ref (s.heap.objs.size + 1) :: us).length = ps.length := by
    have e := r2.length
    rw [Fo.len _ _ _ _ hq] at e
    exact e.symm
  have hb1 := hb _ (Value.ref (s.heap.objs.size + 1) :: us) I2.kIn (by rw [List.append_nil]; exact hl)
  rw [List.append_nil] at hb1
  refine wpAny_call (make_map (f := f) I.kIn M.makes M.init (beq_iff_eq.mp M.fn) (codeAny_mono (Fo.run _ X.stack _ _ ⟨Value.ref (s.heap.objs.size + 1) :: us, []⟩ (Value.ref (s.heap.objs.size + 1) :: us) _ _ E (hr.make C us [])
    (I2.env0.make C us []) hb1 r2 hq) fun r s' hq' => ?_))
  cases r with
  | error e => exact hx pins _ _ e s' I2 hq'
  | ok fl =>
    cases fl with
    | ret u =>
      obtain ⟨v, H', I3, rv, ev, q3⟩ := I2.after hq'
      subst ev
      exact ⟨rv, ⟨V.ref (s.heap.objs.size + 1), H', I3, rfl, q3⟩⟩
    | next => exact False.elim hq'
    | brk => exact False.elim hq'
    | cont => exact False.elim hq'
theorem lv_make {j k : Nat} {f : Addr} {fd : FuncData} {ps : List Str} {w : List D → WD} {x : Str} {p pos : Pos} {e : Expr} {es : List Expr} {wa : WA} (tk : Takes X c.W) (M : Mk X.K (c.T.cad k) f)
    (Fo : FnOk X.prog X.w X.K X.mg X.base (L2.CX X.prog X.w) j f fd ps (spI c.K c.T ps.length k w)) (hw : ∀ ds P E, w ds P E → ds.length + 1 = ps.length) (hr : Room (j + 1) X.A) (hg : Gl X x) (hm : X.mg x = some (.ref (c.T.cad k))) (hb : Binds X.K fd ps [])
    (ha : PA X (e :: es) (liftA c wa)) (hdb : (x == ("__debug__" : Str)) = false) (he : starEach (e :: es) X.env = (false, eval e X.env) :: starEach es X.env) (hpl : (backTo pos (starEach es X.env)).any (·.1) = false) :
    PE X (.Call (.Name x p) (e :: es) [] pos) (liftE c (wN w wa)) := by
  refine ⟨fun pins s σ H Q I ⟨F, ρ, P, E, S, w, q, x⟩ => ?_⟩
  refine wpAny_Call_Name_kw (ld_glob I hg hm ?_ hdb)
  refine PySem.W.callWith_K (h₀ := X.base) I.ok.mod.kin M.kp (thn (ha.run pos pins s σ H (fun vs H1 => ∀ p dx, H1 p = none → H1 dx = none → dx ≠ p → spI c.K c.T ps.length k _ (.ref p :: vs) (upd (upd H1 dx (.own p)) p (.ins (c.T.cad k) dx [])) (fun v H2 => v = .non ∧ Q (.ref p) H2) (L2.WE c.W σ)) I ⟨F, ρ, _, E, S, w, fun ds vs F1 H1 w1 S1 e1 r1 => call_I S1 (by rw [← r1.length]; exact hw _ _ _ w1) r1 w1 (q.up e1) (x.up e1), x⟩) fun us s1 ⟨vs, H1, I1, r, q1⟩ => ⟨I1.kIn, ?_⟩) he hpl
  exact run_makeS M Fo hr hb (passAt tk σ) I1 r q1
/-- what a class's method is -/
structure MethAt (X : Cx) (c : Ct) (k : Nat) (m : Str) (w : List D → WD) : Prop where
  ex : ∃ (f : Addr) (fd : FuncData) (ps : List Str) (j : Nat), Cls X.K (c.T.cad k) ∧ Meth X.K (c.T.cad k) m f ∧ FnOk X.prog X.w X.K X.mg X.base (L2.CX X.prog X.w) j f fd ps (spF c.K c.T ps.length w) ∧ Room j X.A ∧ Binds X.K fd ps [] ∧ ∀ ds P E, w ds P E → ds.length = ps.length
theorem nolook {T : Tab} (inj : ∀ i j, T.nm i = T.nm j → i = j) {mid : Nat} : ∀ {ns : List Nat} {vs : List V}, ns.contains mid = false → ((ns.map T.nm).zip vs).lookup (T.nm mid) = none
  | [], _, _ => rfl
  | _ :: _, [], _ => by rw [List.zip_nil_right]; rfl
  | n :: ns, v :: vs, h => by
    rw [List.contains_cons, Bool.or_eq_false_iff] at h
    have hne : (T.nm mid == T.nm n) = false := by
      rw [beq_eq_false_iff_ne]
      intro z
      rw [inj _ _ z] at h
      simp at h
    simp only [List.map_cons, List.zip_cons_cons, List.lookup, hne]
    exact nolook inj h.2
theorem lv_meth {mid : Nat} {mt : Nat → Option (List D → WD)} {o : Expr} {apos pos : Pos} {e : Expr} {es : List Expr} {wo : WE} {wa : WA} {pl : Sem Bool} (tk : Takes X c.W) (inj : ∀ i j, c.T.nm i = c.T.nm j → i = j) (hmt : ∀ k w, mt k = some w → MethAt X c k (c.T.nm mid) w)
    (ho : PE X o (liftE c wo)) (ha : PA X (e :: es) (liftA c wa)) (hst : starEach (e :: es) X.env = (false, eval e X.env) :: starEach es X.env) (hpl : (backTo pos (starEach es X.env)).any (·.1) = false)
    (ht : eval (.Call (.Attribute o (c.T.nm mid) apos) (e :: es) [] pos) X.env = (do
      let ov ← eval o X.env
      standAt apos.atName
      let (f, first) ← holding [ov] (getMethod ov (c.T.nm mid) pl)
      callWith pos f first (backTo pos (starEach (e :: es) X.env)) (backToKw pos (keywordEach [] X.env)))) :
    PE X (.Call (.Attribute o (c.T.nm mid) apos) (e :: es) [] pos) (liftE c (wMeth mid mt wo wa)) := by
  refine ⟨fun pins s σ H Q I ⟨F, ρ, P, E, S, w, q, x⟩ => ?_⟩
  refine PySem.W.methodCall_KW (pl := pl) (thn (ho.run pins s σ H (fun v H1 => ∃ d F1, R c.K c.T F1 d v ∧ c.S F1 H1 σ ρ ∧ Same F F1 ∧ ∃ k ns vs, d = .ins k ns vs ∧ ns.contains mid = false ∧ ∃ f, mt k = some f ∧ wa ρ (fun ds => f (d :: ds) P E) E) I ⟨F, ρ, _, E, S, w, fun d v F1 H1 w1 S1 e1 r1 => ?_, x⟩) fun u s1 ⟨y, H1, I1, rx, d, F1, rd, S1, e1, k, ns, vs, ed, nc, f, ef, w1⟩ => ?_) ht
  · cases d with
    | ins k ns vs =>
      obtain ⟨nc, w1⟩ := w1
      obtain ⟨f, ef, w1⟩ := hasI_of w1
      exact ⟨_, F1, r1, S1, e1, k, ns, vs, rfl, nc, f, ef, w1⟩
    | _ => exact False.elim w1
  · subst ed
    have rd' := rd
    obtain ⟨a, dx, us, rfl, s0, l, re⟩ := rd
    obtain rfl : u = Value.ref a := rx
    obtain ⟨g, fd, ps, j, hc, hm, Fo, hr, hb, hw⟩ := (hmt k f ef).ex
    refine getmeth_ok I1 (S1.gr.sub.ins s0) hc hm (nolook inj nc) ?_
    refine PySem.W.callWith_K (first := [.ref a]) (h₀ := X.base) I.ok.mod.kin hm.kp (thn (ha.run pos pins s1 σ H1 (fun vs H2 => spF c.K c.T ps.length f (.ref a :: vs) H2 Q (L2.WE c.W σ)) I1 ⟨F1, ρ, _, E, S1, w1, fun ds vs2 F2 H2 w2 S2 e2 r2 => ?_, x.up e1⟩) fun us s2 ⟨vs, H2, I2, r, q2⟩ => ⟨I2.kIn, ?_⟩) hst hpl
    · have rr : Rs c.K c.T F2 (.ins k ns _ :: ds) (.ref a :: vs2) := ⟨.ref a, vs2, rfl, rd'.mono e2, r2⟩
      exact call_F S2 (by rw [← rr.length]; exact hw _ _ _ w2) rr w2 (q.up (e1.trans e2)) (x.up (e1.trans e2))
    · exact run_fnS (us := .ref a :: us) (vs := .ref a :: vs) Fo hr hb (passAt tk σ) I2 (.cons rfl r) q2
theorem lv_meth0 {mid : Nat} {mt : Nat → Option (List D → WD)} {o : Expr} {apos pos : Pos} {wo : WE} {pl : Sem Bool} (tk : Takes X c.W) (inj : ∀ i j, c.T.nm i = c.T.nm j → i = j) (hmt : ∀ k w, mt k = some w → MethAt X c k (c.T.nm mid) w)
    (ho : PE X o (liftE c wo))
    (ht : eval (.Call (.Attribute o (c.T.nm mid) apos) [] [] pos) X.env = (do
      let ov ← eval o X.env
      standAt apos.atName
      let (f, first) ← holding [ov] (getMethod ov (c.T.nm mid) pl)
      callWith pos f first (backTo pos (starEach [] X.env)) (backToKw pos (keywordEach [] X.env)))) :
    PE X (.Call (.Attribute o (c.T.nm mid) apos) [] [] pos) (liftE c (wMeth mid mt wo wNil)) := by
  refine ⟨fun pins s σ H Q I ⟨F, ρ, P, E, S, w, q, x⟩ => ?_⟩
  refine PySem.W.methodCall_KW (pl := pl) (thn (ho.run pins s σ H (fun v H1 => ∃ d F1, R c.K c.T F1 d v ∧ c.S F1 H1 σ ρ ∧ Same F F1 ∧ ∃ k ns vs, d = .ins k ns vs ∧ ns.contains mid = false ∧ ∃ f, mt k = some f ∧ f [d] P E) I ⟨F, ρ, _, E, S, w, fun d v F1 H1 w1 S1 e1 r1 => ?_, x⟩) fun u s1 ⟨y, H1, I1, rx, d, F1, rd, S1, e1, k, ns, vs, ed, nc, f, ef, w1⟩ => ?_) ht
  · cases d with
    | ins k ns vs =>
      obtain ⟨nc, w1⟩ := w1
      obtain ⟨f, ef, w1⟩ := hasI_of w1
      exact ⟨_, F1, r1, S1, e1, k, ns, vs, rfl, nc, f, ef, w1⟩
    | _ => exact False.elim w1
  · subst ed
    have rd' := rd
    obtain ⟨a, dx, us, rfl, s0, l, re⟩ := rd
    obtain rfl : u = Value.ref a := rx
    obtain ⟨g, fd, ps, j, hc, hm, Fo, hr, hb, hw⟩ := (hmt k f ef).ex
    refine getmeth_ok I1 (S1.gr.sub.ins s0) hc hm (nolook inj nc) ?_
    have rr : Rs c.K c.T F1 [.ins k ns _] [.ref a] := Rs.one rd'
    exact PySem.W.callWith_K0 (first := [.ref a]) I1.kIn hm.kp (run_fnS (us := [.ref a]) (vs := [.ref a]) Fo hr hb (passAt tk σ) I1 (.cons rfl .nil) (call_F S1 (by rw [← rr.length]; exact hw _ _ _ w1) rr w1 (q.up e1) (x.up e1)))

/-- the list that a call makes is the caller's -/
theorem lf_call {k : Nat} {f : Addr} {fd : FuncData} {ps : List Str} {w : WO} {x : Str} {p pos : Pos} {e : Expr} {es : List Expr} {wa : WA} (tk : Takes X c.W)
    (Fo : FnOk X.prog X.w X.K X.mg X.base (L2.CX X.prog X.w) k f fd ps (spO c.K c.T ps.length w)) (hw : ∀ ds P E, w ds P E → ds.length = ps.length) (hr : Room k X.A) (hg : Gl X x) (hm : X.mg x = some (.ref f)) (hk : PySem.W.keepIn X.K (.ref f) = true) (hb : Binds X.K fd ps [])
    (ha : PA X (e :: es) (liftA c wa)) (hdb : (x == ("__debug__" : Str)) = false) (he : starEach (e :: es) X.env = (false, eval e X.env) :: starEach es X.env) (hpl : (backTo pos (starEach es X.env)).any (·.1) = false) :
    PE X (.Call (.Name x p) (e :: es) [] pos) (liftF c (wN (fun ds P E => w ds (fun r => P (.lst r)) E) wa)) := by
  refine pe_weak (pe_callS Fo hr hg hm hk hb (fun σ => passAt tk σ) ha hdb he hpl) fun σ H Q ⟨F, ρ, P, E, S, w, q, x⟩ => ⟨F, ρ, _, E, S, w, fun ds vs F1 H1 w1 S1 e1 r1 => ?_, x⟩
  refine ⟨by rw [← r1.length]; exact hw _ _ _ w1, F1, ds, _, E, ⟨S1.gr.sub, S1.gr.cel⟩, r1, w1, fun rs a us F' H' hp p z1 z2 z3 rr => ?_, fun y cls dx F' H' h1 p r2 => (x.up e1) y cls dx F' H' h1 (S1.called p) p.old r2⟩
  have p0 : Post c.K c.T F1 H1 F' (cut H' a) := ⟨⟨fun b o e n => by rw [cut_ne (ne_of_none e z3)]; exact p.keep.p b o e n, fun b e => (by
    by_cases q : b = a
    · subst q; exact z3
    · rw [cut_ne q] at e; exact p.keep.d b e)⟩, p.old, ⟨fun b o e n => by rw [cut_ne (ne_of_none e z2)]; exact p.sub.p b o e n, fun b e => (by
    by_cases q : b = a
    · subst q; exact z2
    · rw [cut_ne q] at e; exact p.sub.d b e)⟩, p.new, ⟨fun b i e => by
    obtain ⟨u, k1, k2⟩ := p.cel.m b i e
    exact ⟨u, by rw [cut_ne (ne_of_none e z2)]; exact k1, k2⟩, p.cel.tb⟩⟩
  have := q rs us a F' (cut H' a) hp (S1.called p0) (e1.trans p.old) rr cut_same
  rwa [cut_upd z1] at this

/-! ### a def, by its body -/
def slots0 (n : Nat) (ds : List D) : List Slot := ds.map .val ++ List.replicate (n - ds.length) .emp
/-- a def of np parameters and n names -/
def wF (np n : Nat) (b : WS) : List D → WD := fun ds P E => ds.length = np ∧ b { nx := fun _ => P .non, rt := P, bk := fun _ => False, ct := fun _ => False, xe := fun x _ => E x } (slots0 n ds)
def wFO (np n : Nat) (b : WS) : WO := fun ds P E => ds.length = np ∧ b { nx := fun _ => False, rt := fun _ => False, bk := fun _ => False, ct := fun _ => False, xe := fun x _ => E x, ro := P } (slots0 n ds)
def ownI (o : Option Slot) (P : Nat → List Nat → List D → Prop) : Prop := match o with | some (.own (.ins k ns vs)) => P k ns vs | _ => False
/-- an __init__ of the class k -/
def wI (k np n : Nat) (b : WS) : List D → WD := fun ds P E => ds.length + 1 = np ∧ b { nx := fun ρ => ownI ρ[0]? fun k' ns vs => k' = k ∧ P (.ins k ns vs), rt := fun _ => False, bk := fun _ => False, ct := fun _ => False, xe := fun x _ => E x } (.own (.ins k [] []) :: slots0 (n - 1) ds)
theorem slots0_len {n : Nat} {ds : List D} (h : ds.length ≤ n) : (slots0 n ds).length = n := by unfold slots0; simp; omega
theorem slots0_get {n : Nat} {ds : List D} {i : Nat} {t : Slot} (h : (slots0 n ds)[i]? = some t) : (∃ d, ds[i]? = some d ∧ t = .val d) ∨ t = .emp := by
  unfold slots0 at h
  by_cases q : i < ds.length
  · rw [List.getElem?_append_left (by simpa using q), List.getElem?_map] at h
    cases e : ds[i]? with
    | none => rw [e] at h; cases h
    | some d => rw [e] at h; cases h; exact .inl ⟨d, rfl, rfl⟩
  · rw [List.getElem?_append_right (by simpa using q), List.getElem?_replicate] at h
    split at h
    · cases h; exact .inr rfl
    · cases h
theorem start_get {N : List Str} {vs : List V} {i : Nat} {v : V} (h : vs[i]? = some v) : (L2.start N vs)[i]? = some (some v) := by
  unfold L2.start
  rw [List.getElem?_append_left (by simpa using lt_of_get h), List.getElem?_map, h]
  rfl
end
section
variable {P : Program} {w : World} {K : PySem.W.Frag} {T : Tab} {mg : Str → Option Value} {base : Heap}
/-- THE RULE: a def keeps its promise, if its body is read -/
theorem fn_tree {x qual : Str} {params : Arguments} {body : List Stmt} {scope : Scope} {k : Nat} {f : Addr} {dV kV doc pm cdv ct oc : Value} {an od : Option Addr} {osl : Array (Option Value)} {N ps : List Str} {b : WS}
    (lk : K.lookup f = some ⟨oc, od, .func (PySem.W.fnOf x qual params body scope dV kV doc pm an cdv ct), osl⟩) (hcd : PySem.W.codeIn K cdv qual = true) (S : FnScope N ps scope) (hpn : ps.length ≤ N.length)
    (hbody : ∀ (A : Around) (outer : List Env) (s : Shared) (H : Hp) (E : XK) (F0 B : Hp), Room k (A.deeper (envOfC qual scope s.heap.objs.size f cdv)) →
      PSs (cxOf (L2.CX P w) P w K mg base N qual scope f cdv A outer s H E) body (liftS ⟨K, T, F0, B, fun cls dx _ H' => E cls dx H', 0⟩ b)) :
    FnOk P w K mg base (L2.CX P w) (k + 1) f (PySem.W.fnOf x qual params body scope dV kV doc pm an cdv ct) ps (spF K T ps.length (wF ps.length N.length b)) := by
  refine fn_of lk hcd S (fun vs H Q E h => h.1) fun A outer s H vs Q E hr ⟨hl, F, ds, Pd, Ex, sF, r, ⟨hn, hw⟩, q, x⟩ => ⟨_, hbody A outer s H E F H hr, ?_⟩
  have len : (L2.start N vs).length = (slots0 N.length ds).length := by
    rw [slots0_len (by rw [hn]; exact hpn)]
    unfold L2.start
    simp
    omega
  refine ⟨F, _, _, ⟨⟨Keep.refl, sF.s, fun a o e => .inl e, Same.refl F, sF.c⟩, len, fun i t e => ?_, fun i j a o p h1 h2 h3 h4 => ?_, fun i k ns ds h => ?_⟩, hw, ⟨fun ρ' σ' F' H' h1 S' e => ?_, fun d v F' H' h1 g e rd => ?_, fun _ _ _ _ h _ _ => h.elim, fun _ _ _ _ h _ _ => h.elim, fun y ρ' cls dx σ' F' H' h1 S' e r' => ?_, fun _ _ _ _ _ h => h.elim⟩⟩
  · rcases slots0_get e with ⟨d, h1, rfl⟩ | rfl
    · obtain ⟨v, h2, h3⟩ := r.get h1
      exact ⟨v, by rw [start_get h2]; rfl, h3⟩
    · trivial
  · rcases slots0_get h1 with ⟨d, _, z⟩ | z <;> cases z
  · rcases slots0_get h with ⟨d, _, z⟩ | z <;> cases z
  · exact q _ _ F' H' h1 ⟨S'.gr.keep, S'.gr.old, S'.gr.sub, S'.gr.new, S'.gr.cel⟩ rfl
  · exact q d v F' H' h1 ⟨g.keep, g.old, g.sub, g.new, g.cel⟩ rd
  · exact x y cls dx F' H' h1 ⟨S'.gr.keep, S'.gr.old, S'.gr.sub, S'.gr.new, S'.gr.cel⟩ r'
/-- .. of a def that returns a list of its own -/
theorem fn_treeO {x qual : Str} {params : Arguments} {body : List Stmt} {scope : Scope} {k : Nat} {f : Addr} {dV kV doc pm cdv ct oc : Value} {an od : Option Addr} {osl : Array (Option Value)} {N ps : List Str} {b : WS}
    (lk : K.lookup f = some ⟨oc, od, .func (PySem.W.fnOf x qual params body scope dV kV doc pm an cdv ct), osl⟩) (hcd : PySem.W.codeIn K cdv qual = true) (S : FnScope N ps scope) (hpn : ps.length ≤ N.length)
    (hbody : ∀ (A : Around) (outer : List Env) (s : Shared) (H : Hp) (E : XK) (F0 B : Hp), Room k (A.deeper (envOfC qual scope s.heap.objs.size f cdv)) →
      PSs (cxOf (L2.CX P w) P w K mg base N qual scope f cdv A outer s H E) body (liftS ⟨K, T, F0, B, fun cls dx _ H' => E cls dx H', 0⟩ b)) :
    FnOk P w K mg base (L2.CX P w) (k + 1) f (PySem.W.fnOf x qual params body scope dV kV doc pm an cdv ct) ps (spO K T ps.length (wFO ps.length N.length b)) := by
  refine fn_of lk hcd S (fun vs H Q E h => h.1) fun A outer s H vs Q E hr ⟨hl, F, ds, Pd, Ex, sF, r, ⟨hn, hw⟩, q, x⟩ => ⟨_, hbody A outer s H E F H hr, ?_⟩
  have len : (L2.start N vs).length = (slots0 N.length ds).length := by
    rw [slots0_len (by rw [hn]; exact hpn)]
    unfold L2.start
    simp
    omega
  refine ⟨F, _, _, ⟨⟨Keep.refl, sF.s, fun a o e => .inl e, Same.refl F, sF.c⟩, len, fun i t e => ?_, fun i j a o p h1 h2 h3 h4 => ?_, fun i k ns ds h => ?_⟩, hw, ⟨fun _ _ _ _ h _ _ => h.elim, fun _ _ _ _ h _ _ _ => h.elim, fun _ _ _ _ h _ _ => h.elim, fun _ _ _ _ h _ _ => h.elim, fun y ρ' cls dx σ' F' H' h1 S' e r' => ?_, fun rs a us F' H' h1 g e z1 z2 z3 rd => ?_⟩⟩
  · rcases slots0_get e with ⟨d, h1, rfl⟩ | rfl
    · obtain ⟨v, h2, h3⟩ := r.get h1
      exact ⟨v, by rw [start_get h2]; rfl, h3⟩
    · trivial
  · rcases slots0_get h1 with ⟨d, _, z⟩ | z <;> cases z
  · rcases slots0_get h with ⟨d, _, z⟩ | z <;> cases z
  · exact x y cls dx F' H' h1 ⟨S'.gr.keep, S'.gr.old, S'.gr.sub, S'.gr.new, S'.gr.cel⟩ r'
  · exact q rs a us F' H' h1 ⟨g.keep, g.old, g.sub, g.new, g.cel⟩ z1 z2 z3 rd
theorem fn_init {x qual : Str} {params : Arguments} {body : List Stmt} {scope : Scope} {k cl : Nat} {f : Addr} {dV kV doc pm cdv ct oc : Value} {an od : Option Addr} {osl : Array (Option Value)} {N ps : List Str} {b : WS}
    (lk : K.lookup f = some ⟨oc, od, .func (PySem.W.fnOf x qual params body scope dV kV doc pm an cdv ct), osl⟩) (hcd : PySem.W.codeIn K cdv qual = true) (S : FnScope N ps scope) (hpn : ps.length ≤ N.length)
    (hbody : ∀ (A : Around) (outer : List Env) (s : Shared) (H : Hp) (E : XK) (F0 B : Hp) (sf : Addr), Room k (A.deeper (envOfC qual scope s.heap.objs.size f cdv)) →
      PSs (cxOf (L2.CX P w) P w K mg base N qual scope f cdv A outer s H E) body (liftS ⟨K, T, F0, B, fun cls dx _ H' => E cls dx H', sf⟩ b)) :
    FnOk P w K mg base (L2.CX P w) (k + 1) f (PySem.W.fnOf x qual params body scope dV kV doc pm an cdv ct) ps (spI K T ps.length cl (wI cl ps.length N.length b)) := by
  refine fn_of lk hcd S (fun vs H Q E h => h.1) fun A outer s H vs Q E hr ⟨hl, p, dx0, us, F, ds, Pd, Ex, ev, hp, fp, sF, r, ⟨hn, hw⟩, q, x⟩ => ⟨_, hbody A outer s H E F (cut H p) p hr, ?_⟩
  subst ev
  have len : (L2.start N (.ref p :: us)).length = (Slot.own (.ins cl [] []) :: slots0 (N.length - 1) ds).length := by
    rw [List.length_cons, slots0_len (by omega)]
    unfold L2.start
    simp at hl ⊢
    omega
  have own0 : ∀ {i : Nat} {o : O}, (Slot.own (.ins cl [] []) :: slots0 (N.length - 1) ds)[i]? = some (.own o) → i = 0 ∧ o = .ins cl [] [] := fun {i o} h => by
    cases i with
    | zero => simp at h; exact ⟨rfl, h.symm⟩
    | succ i =>
      rw [List.getElem?_cons_succ] at h
      rcases slots0_get h with ⟨d, _, z⟩ | z <;> cases z
  refine ⟨F, _, _, ⟨⟨Keep.of fun a o e => ?_, sF.s, fun a o e => .inl e, Same.refl F, sF.c⟩, len, fun i t e => ?_, fun i j a o p' h1 h2 h3 h4 => ?_, fun i k ns ds h => ?_⟩, hw, ⟨fun ρ' σ' F' H' h1 S' e => ?_, fun d v F' H' h1 g e rd => h1.elim, fun _ _ _ _ h _ _ => h.elim, fun _ _ _ _ h _ _ => h.elim, fun y ρ' cls dx σ' F' H' h1 S' e r' => ?_, fun _ _ _ _ _ h => h.elim⟩⟩
  · by_cases z : a = p
    · subst z
      have e : cut H a a = some o := e
      rw [cut_same] at e; cases e
    · have e : cut H p a = some o := e
      rw [cut_ne z] at e; exact e
  · cases i with
    | zero =>
      simp at e
      subst e
      exact ⟨p, _, by rw [start_get (i := 0) rfl]; rfl, hp, ⟨dx0, [], rfl, rfl, rfl⟩, fp, cut_same⟩
    | succ i =>
      rw [List.getElem?_cons_succ] at e
      rcases slots0_get e with ⟨d, h1, rfl⟩ | rfl
      · obtain ⟨v, h2, h3⟩ := r.get h1
        exact ⟨v, by rw [start_get (i := i + 1) (show (V.ref p :: us)[i + 1]? = some v from h2)]; rfl, h3⟩
      · trivial
  · rw [(own0 h1).1, (own0 h2).1]
  · obtain ⟨rfl, _⟩ := own0 h
    exact start_get (i := 0) rfl
  · have h1 : ownI ρ'[0]? (fun k' ns vs => k' = cl ∧ Pd (.ins cl ns vs)) := h1
    unfold ownI at h1
    split at h1
    · rename_i k' ns vs e0
      obtain ⟨rfl, h1⟩ := h1
      have hp' : σ'[0]? = some (some (.ref p)) := S'.inst 0 k' ns vs e0
      obtain ⟨a, u, g1, g2, ⟨dx', us', rfl, l, re⟩, g4, g5⟩ := Stt.ownAt (c := ⟨K, T, F, cut H p, fun cls dx _ H' => E cls dx H', p⟩) S' e0
      rw [hp'] at g1
      cases g1
      exact q ns vs us' dx' F' H' h1 ⟨S'.gr.keep, S'.gr.old, S'.gr.sub, S'.gr.new, S'.gr.cel⟩ g4 g2 l re
    · exact h1.elim
  · exact x y cls dx F' H' h1 ⟨S'.gr.keep, S'.gr.old, S'.gr.sub, S'.gr.new, S'.gr.cel⟩ r'
end
end Tr

namespace Tr
open PySem PySem.Spec PyProof.Rows L2

/-! ### slices; starred displays -/
def cutD (ds : List D) (lo hi : Option Int) : List D := (ds.drop (HT.sIx ds.length 0 lo)).take (HT.sIx ds.length ds.length hi - HT.sIx ds.length 0 lo)
def dCut (lo hi : Option Int) : D → WD
  | .lst ds => fun P _ => P (.lst (cutD ds lo hi))
  | .tup ds => fun P _ => P (.tup (cutD ds lo hi))
  | .str x => fun P _ => x.length ≤ sizeLine ∧ P (.str (cutS x lo hi))
  | _ => fun _ _ => False
def dSlTo : D → D → WD
  | a, .int k => dCut none (some k) a
  | _, _ => fun _ _ => False
def dSlFr : D → D → WD
  | a, .int k => dCut (some k) none a
  | _, _ => fun _ _ => False
/-- a[i:j] -/
def wSlAB (wa wi wj : WE) : WE := fun ρ P E => wa ρ (fun d => wi ρ (fun i => isInt i fun i => wj ρ (fun j => isInt j fun j => dCut (some i) (some j) d P E) E) E) E
section
variable {K : PySem.W.Frag} {T : Tab} {F : Hp}
theorem Rs.drop' : ∀ {ds : List D} {vs : List V}, Rs K T F ds vs → ∀ n, Rs K T F (ds.drop n) (vs.drop n)
  | _, _, r, 0 => r
  | [], _, r, n + 1 => by cases r; rfl
  | _ :: ds, _, ⟨v, t, e, a, b⟩, n + 1 => by subst e; exact Rs.drop' b n
theorem Rs.take' : ∀ {ds : List D} {vs : List V}, Rs K T F ds vs → ∀ n, Rs K T F (ds.take n) (vs.take n)
  | _, _, r, 0 => by rw [List.take_zero, List.take_zero]; rfl
  | [], _, r, n + 1 => by cases r; rfl
  | _ :: ds, _, ⟨v, t, e, a, b⟩, n + 1 => by subst e; exact ⟨v, t.take n, rfl, a, Rs.take' b n⟩
theorem Rs.cut {ds : List D} {vs : List V} (r : Rs K T F ds vs) (lo hi : Option Int) : Rs K T F (cutD ds lo hi) (cutV vs lo hi) := by
  unfold cutD cutV
  rw [r.length]
  exact (r.drop' _).take' _
theorem cutD_whole {ds : List D} {lo hi : Option Int} (h : HT.sIx ds.length 0 lo = 0 ∧ HT.sIx ds.length ds.length hi = ds.length) : cutD ds lo hi = ds := by
  unfold cutD
  rw [h.1, h.2]
  simp
end
section
variable {c : Ct} {X : Cx} {F H : Hp} {σ : L2.St} {ρ : List Slot}
theorem cut_rd {lo hi : Option Int} {d : D} {v : V} {P : D → Prop} {E : Exc → Prop} {Q : VK} (S : c.S F H σ ρ) (r : R c.K c.T F d v) (w : dCut lo hi d P E) (q : c.qV F σ ρ P Q) : (rSlL c.K v lo hi H Q ∨ rSlA c.K v lo hi H Q) ∨ rSlS v lo hi H Q := by
  cases d with
  | lst ds =>
    obtain ⟨a, vs, rfl, s, r⟩ := r
    exact .inl (.inl ⟨a, vs, rfl, S.gr.sub.seq s, new_lst S (r.cut lo hi) w q⟩)
  | tup ds =>
    obtain ⟨a, vs, rfl, s, r⟩ := r
    refine .inl (.inr ⟨a, vs, rfl, S.gr.sub.sqT s, fun h => ?_, fun _ => new_tup S (r.cut lo hi) w q⟩)
    refine q (.tup ds) _ F H ?_ S (Same.refl F) ⟨a, vs, rfl, s, r⟩
    have w : P (.tup (cutD ds lo hi)) := w
    rwa [cutD_whole (by rw [r.length]; exact h)] at w
  | str x =>
    cases r
    exact .inr ⟨x, rfl, w.1, q _ _ F H w.2 S (Same.refl F) rfl⟩
  | _ => exact False.elim w
theorem lv_slTo {e k : Expr} {we wk : WE} {p2 pos : Pos} (hK : X.K = c.K) (he : PE X e (liftE c we)) (hk : PE X k (liftE c wk)) : PE X (.Subscript e (.Slice none (some k) none p2) pos) (liftE c (w2 dSlTo we wk)) := by
  refine pe_weak (pe_slice ((sl_list.or sl_tupA).or sl_str) he po_none (po_some hk)) fun σ H Q ⟨F, ρ, P, E, S, w, q, x⟩ => ⟨F, ρ, _, E, S, w, fun d v F1 H1 w1 S1 e1 r1 => ?_, x⟩
  show liftE c wk σ H1 _
  refine ⟨F1, ρ, _, E, S1, w1, fun d2 v2 F2 H2 w2 S2 e2 r2 => ?_, x.up e1⟩
  cases d2 with
  | int i =>
    cases r2
    exact ⟨i, rfl, hK ▸ cut_rd S2 (r1.mono e2) w2 (q.up (e1.trans e2))⟩
  | _ => exact False.elim w2
theorem lv_slFr {e k : Expr} {we wk : WE} {p2 pos : Pos} (hK : X.K = c.K) (he : PE X e (liftE c we)) (hk : PE X k (liftE c wk)) : PE X (.Subscript e (.Slice (some k) none none p2) pos) (liftE c (w2 dSlFr we wk)) := by
  refine pe_weak (pe_slice ((sl_list.or sl_tupA).or sl_str) he (po_some hk) po_none) fun σ H Q ⟨F, ρ, P, E, S, w, q, x⟩ => ⟨F, ρ, _, E, S, w, fun d v F1 H1 w1 S1 e1 r1 => ?_, x⟩
  refine ⟨F1, ρ, _, E, S1, w1, fun d2 v2 F2 H2 w2 S2 e2 r2 => ?_, x.up e1⟩
  cases d2 with
  | int i =>
    cases r2
    exact ⟨i, rfl, hK ▸ cut_rd S2 (r1.mono e2) w2 (q.up (e1.trans e2))⟩
  | _ => exact False.elim w2
/-- *a, .. -/
def wStar (wa : WE) (wr : WA) : WA := fun ρ P E => wa ρ (fun x => match x with
  | .tup ds => wr ρ (fun ys => P (ds ++ ys)) E
  | .lst ds => wr ρ (fun ys => P (ds ++ ys)) E
  | _ => False) E
theorem lv_slAB {e a b : Expr} {we wa wb : WE} {p2 pos : Pos} (hK : X.K = c.K) (he : PE X e (liftE c we)) (ha : PE X a (liftE c wa)) (hb : PE X b (liftE c wb)) : PE X (.Subscript e (.Slice (some a) (some b) none p2) pos) (liftE c (wSlAB we wa wb)) := by
  refine pe_weak (pe_slice ((sl_list.or sl_tupA).or sl_str) he (po_some ha) (po_some hb)) fun σ H Q ⟨F, ρ, P, E, S, w, q, x⟩ => ⟨F, ρ, _, E, S, w, fun d v F1 H1 w1 S1 e1 r1 => ?_, x⟩
  show liftE c wa σ H1 _
  refine ⟨F1, ρ, _, E, S1, w1, fun d2 v2 F2 H2 w2 S2 e2 r2 => ?_, x.up e1⟩
  obtain ⟨i, rfl, w2⟩ := isInt_of w2
  cases r2
  refine ⟨i, rfl, ?_⟩
  show liftE c wb σ H2 _
  refine ⟨F2, ρ, _, E, S2, w2, fun d3 v3 F3 H3 w3 S3 e3 r3 => ?_, x.up (e1.trans e2)⟩
  obtain ⟨j, rfl, w3⟩ := isInt_of w3
  cases r3
  exact ⟨j, rfl, hK ▸ cut_rd S3 (r1.mono (e2.trans e3)) w3 (q.up (e1.trans (e2.trans e3)))⟩
theorem la_star {e : Expr} {es : List Expr} {p : Pos} {wa : WE} {wr : WA} (hK : X.K = c.K) (ha : PE X e (liftE c wa)) (hr : PA X es (liftA c wr)) : PA X (.Starred e p :: es) (liftA c (wStar wa wr)) := by
  refine pa_weak (StX.pa_star ha hr) ?_
  rintro σ H Q ⟨F, ρ, P, E, S, w, q, x⟩
  refine ⟨F, ρ, _, E, S, w, fun d v F1 H1 w1 S1 e1 r1 => ?_, x⟩
  cases d with
  | tup ds =>
    obtain ⟨a, vs, rfl, s, r⟩ := r1
    exact ⟨a, vs, rfl, .inl (hK ▸ S1.gr.sub.sqT s), F1, ρ, _, E, S1, w1, fun d2 v2 F2 H2 w2 S2 e2 r2 => q _ _ F2 H2 w2 S2 (e1.trans e2) ((r.mono e2).append r2), x.up e1⟩
  | lst ds =>
    obtain ⟨a, vs, rfl, s, r⟩ := r1
    exact ⟨a, vs, rfl, .inr (hK ▸ S1.gr.sub.seq s), F1, ρ, _, E, S1, w1, fun d2 v2 F2 H2 w2 S2 e2 r2 => q _ _ F2 H2 w2 S2 (e1.trans e2) ((r.mono e2).append r2), x.up e1⟩
  | _ => exact False.elim w1
end
end Tr

namespace Tr
open PySem PySem.Spec PyProof.Rows L2

/-! ### instances made by calls with keywords, or with parameters left out -/
inductive Arg where
  | pos (i : Nat) | key (j : Nat) | dfl (d : D)
structure Shp where
  k : Nat
  n : Nat
  ks : List Str
  arr : List Arg
def argD (ds zs : List D) : Arg → Option D
  | .pos i => ds[i]?
  | .key j => zs[j]?
  | .dfl d => some d
def arrD (ds zs : List D) : List Arg → Option (List D)
  | [] => some []
  | a :: r => match argD ds zs a, arrD ds zs r with
    | some x, some xs => some (x :: xs)
    | _, _ => none
/-- what a call of this shape binds -/
structure KbOk (K : PySem.W.Frag) (T : Tab) (fd : FuncData) (ps : List Str) (sh : Shp) : Prop where
  ex : ∃ (g : List Value → List Value → List Value) (gV : List V → List V → List V), KBn K fd ps (sh.n + 1) sh.ks g gV ∧
    ∀ (F : Hp) (v : V) (vs zs : List V) (ds dz xs : List D), Rs K T F ds vs → Rs K T F dz zs → ds.length = sh.n → dz.length = sh.ks.length → arrD ds dz sh.arr = some xs → ∃ us, gV (v :: vs) zs = v :: us ∧ Rs K T F xs us
/-- the same of a function -/
structure KfOk (K : PySem.W.Frag) (T : Tab) (fd : FuncData) (ps : List Str) (sh : Shp) : Prop where
  ex : ∃ (g : List Value → List Value → List Value) (gV : List V → List V → List V), KBn K fd ps sh.n sh.ks g gV ∧
    ∀ (F : Hp) (vs zs : List V) (ds dz xs : List D), Rs K T F ds vs → Rs K T F dz zs → ds.length = sh.n → dz.length = sh.ks.length → arrD ds dz sh.arr = some xs → Rs K T F xs (gV vs zs)
def wMkK (o : Option Shp) (ini : Nat → List D → WD) (wa wk : WA) : WE := fun ρ P E => match o with
  | none => False
  | some sh => wa ρ (fun ds => wk ρ (fun zs => ds.length = sh.n ∧ zs.length = sh.ks.length ∧ match arrD ds zs sh.arr with | some xs => ini sh.k xs P E | none => False) E) E
theorem pk_weak {X : Cx} {kws : List Keyword} {t u : TA} (h : PK X kws t) (i : ∀ σ H Q, u σ H Q → t σ H Q) : PK X kws u := ⟨fun pos pins s σ H Q I q => h.run pos pins s σ H Q I (i σ H Q q)⟩
section
variable {c : Ct} {X : Cx} {F H : Hp} {σ : L2.St} {ρ : List Slot}
theorem lk_nil : PK X [] (liftA c wNil) := pk_weak pk_nil fun σ H Q ⟨F, ρ, P, E, S, w, q, x⟩ => q [] [] F H w S (Same.refl F) rfl
theorem lk_cons {e : Expr} {kws : List Keyword} {nm : Option Str} {kpos : Pos} {wa : WE} {wr : WA} (ha : PE X e (liftE c wa)) (hr : PK X kws (liftA c wr)) : PK X (⟨nm, e, kpos⟩ :: kws) (liftA c (wCons wa wr)) := by
  refine pk_weak (pk_cons ha hr) ?_
  rintro σ H Q ⟨F, ρ, P, E, S, w, q, x⟩
  exact ⟨F, ρ, _, E, S, w, fun d v F1 H1 w1 S1 e1 r1 => ⟨F1, ρ, _, E, S1, w1, fun ds vs F2 H2 w2 S2 e2 r2 => q (d :: ds) (v :: vs) F2 H2 w2 S2 (e1.trans e2) ⟨v, vs, rfl, r1.mono e2, r2⟩, x.up e1⟩, x⟩
theorem run_makeKS {CX : CXT} {k n : Nat} {C f : Addr} {fd : FuncData} {ps ks : List Str} {sp : Sp} {E : XK} {pins : List (Addr × Obj)} {s : Shared} {Q : VK} {us ws : List Value} {vs zs : List V} {g : List Value → List Value → List Value} {gV : List V → List V → List V} (M : Mk X.K C f) (Fo : FnOk X.prog X.w X.K X.mg X.base CX k f fd ps sp) (hr : Room (k + 1) X.A) (hb : KBn X.K fd ps (n + 1) ks g gV)
    (hx : PassesAt CX X σ E) (I : Inv X pins σ H s) (r : Vals vs us) (rz : Vals zs ws) (l1 : vs.length = n) (l2 : zs.length = ks.length)
    (h : ∀ x dx, H x = none → H dx = none → dx ≠ x → sp (gV (.ref x :: vs) zs) (upd (upd H dx (.own x)) x (.ins C dx [])) (fun v H2 => v = .non ∧ Q (.ref x) H2) E) :
    wpAny (model X.prog X.w) X.A (call (.ref C) us (ks.zip ws)) (EP X pins σ Q) X.xe s := by
  have hq := h (s.heap.objs.size + 1) s.heap.objs.size (I.hok.fresh (Nat.le_succ _)) (I.hok.fresh (Nat.le_refl _)) (Nat.ne_of_lt (Nat.lt_succ_self _))
  have I2 := Inv.made (C := C) I
  have r1 : Vals (V.ref (s.heap.objs.size + 1) :: vs) (Value.ref (s.heap.objs.size + 1) :: us) := .cons rfl r
  have r2 := hb.rel r1 rz
  have n1 : (Value.ref (s.heap.objs.size + 1) :: us).length = n + 1 := by
    rw [List.length_cons, ← r.length, l1]
  refine wpAny_call (make_map (f := f) I.kIn M.makes M.init (beq_iff_eq.mp M.fn) (codeAny_mono (Fo.run _ X.stack _ _ ⟨Value.ref (s.heap.objs.size + 1) :: us, ks.zip ws⟩ (g (Value.ref (s.heap.objs.size + 1) :: us) ws) _ _ E (hr.make C us (ks.zip ws))
    (I2.env0.make C us (ks.zip ws)) (hb.to _ (Value.ref (s.heap.objs.size + 1) :: us) ws I2.kIn n1 (rz.length.symm.trans l2)) r2 hq) fun r s' hq' => ?_))
  cases r with
  | error e => exact hx pins _ _ e s' I2 hq'
  | ok fl =>
    cases fl with
    | ret u =>
      obtain ⟨v, H', I3, rv, ev, q3⟩ := I2.after hq'
      subst ev
      exact ⟨rv, ⟨V.ref (s.heap.objs.size + 1), H', I3, rfl, q3⟩⟩
    | next => exact False.elim hq'
    | brk => exact False.elim hq'
    | cont => exact False.elim hq'
theorem run_fnNS {CX : CXT} {k n : Nat} {f : Addr} {fd : FuncData} {ps ks : List Str} {sp : Sp} {E : XK} {pins : List (Addr × Obj)} {s : Shared} {Q : VK} {us ws : List Value} {vs zs : List V} {g : List Value → List Value → List Value} {gV : List V → List V → List V} (Fo : FnOk X.prog X.w X.K X.mg X.base CX k f fd ps sp) (hr : Room k X.A) (hb : KBn X.K fd ps n ks g gV)
    (hx : PassesAt CX X σ E) (I : Inv X pins σ H s) (r : Vals vs us) (rz : Vals zs ws) (l1 : vs.length = n) (l2 : zs.length = ks.length) (h : sp (gV vs zs) H Q E) : wpAny (model X.prog X.w) X.A (call (.ref f) us (ks.zip ws)) (EP X pins σ Q) X.xe s := by
  have r2 := hb.rel r rz
  refine wpAny_call (codeAny_mono (Fo.run X.A X.stack s H ⟨us, ks.zip ws⟩ (g us ws) (gV vs zs) Q E hr I.env0 (hb.to s us ws I.kIn (r.length.symm.trans l1) (rz.length.symm.trans l2)) r2 h) fun r s' hq => ?_)
  cases r with
  | error e => exact hx pins _ _ e s' I hq
  | ok fl =>
    cases fl with
    | ret u => exact I.after hq
    | next => exact False.elim hq
    | brk => exact False.elim hq
    | cont => exact False.elim hq
theorem lv_callK {k : Nat} {f : Addr} {fd : FuncData} {ps : List Str} {sh : Shp} {sem : Nat → List D → WD} {x : Str} {p pos : Pos} {e : Expr} {es : List Expr} {kws : List Keyword} {wa wk : WA} (tk : Takes X c.W)
    (Fo : FnOk X.prog X.w X.K X.mg X.base (L2.CX X.prog X.w) k f fd ps (spF c.K c.T ps.length (sem sh.k))) (hw : ∀ ds P E, sem sh.k ds P E → ds.length = ps.length) (hr : Room k X.A) (hg : Gl X x) (hm : X.mg x = some (.ref f)) (hk : PySem.W.keepIn X.K (.ref f) = true) (hK : X.K = c.K) (hb : KfOk X.K c.T fd ps sh)
    (ha : PA X (e :: es) (liftA c wa)) (hkw : PK X kws (liftA c wk)) (hall : (backToKw pos (keywordEach kws X.env)).all (·.1.isSome) = true) (hks : (backToKw pos (keywordEach kws X.env)).filterMap (·.1) = sh.ks)
    (hdb : (x == ("__debug__" : Str)) = false) (he : starEach (e :: es) X.env = (false, eval e X.env) :: starEach es X.env) (hpl : ((backTo pos (starEach (e :: es) X.env)).any (·.1) || (backToKw pos (keywordEach kws X.env)).any (·.1.isNone)) = false) :
    PE X (.Call (.Name x p) (e :: es) kws pos) (liftE c (wMkK (some sh) sem wa wk)) := by
  obtain ⟨g, gV, hb, hrel⟩ := hb.ex
  refine ⟨fun pins s σ H Q I ⟨F, ρ, P, E, S, w, q, x⟩ => ?_⟩
  refine wpAny_Call_Name_kw (ld_glob I hg hm ?_ hdb)
  refine PySem.W.callWith_KW (h₀ := X.base) I.ok.mod.kin hk hall (thn (ha.run pos pins s σ H (fun vs H1 => liftA c wk σ H1 fun zs H2 => vs.length = sh.n ∧ zs.length = sh.ks.length ∧ spF c.K c.T ps.length (sem sh.k) (gV vs zs) H2 Q (L2.WE c.W σ)) I
    ⟨F, ρ, _, E, S, w, fun ds vs F1 H1 w1 S1 e1 r1 => ⟨F1, ρ, _, E, S1, w1, fun dz zs F2 H2 w2 S2 e2 r2 => ?_, x.up e1⟩, x⟩) fun us s1 ⟨vs, H1, I1, r, q1⟩ => ?_) hpl he
  · obtain ⟨n1, n2, w2⟩ := w2
    refine ⟨by rw [← r1.length]; exact n1, by rw [← r2.length]; exact n2, ?_⟩
    split at w2
    · rename_i xs ex
      have ru : Rs c.K c.T F2 xs (gV vs zs) := hK ▸ hrel F2 vs zs ds dz xs (hK ▸ r1.mono e2) (hK ▸ r2) n1 n2 ex
      exact call_F S2 (by rw [← ru.length]; exact hw _ _ _ w2) ru w2 (q.up (e1.trans e2)) (x.up (e1.trans e2))
    · exact w2.elim
  · refine thn (hkw.run pos pins s1 σ H1 _ I1 q1) fun ws s2 ⟨zs, H2, I2, rz, l1, l2, q2⟩ => ⟨I2.kIn, ?_⟩
    rw [hks]
    exact run_fnNS Fo hr hb (passAt tk σ) I2 r rz l1 l2 q2
theorem lv_makeK {j : Nat} {f : Addr} {fd : FuncData} {ps : List Str} {sh : Shp} {ini : Nat → List D → WD} {x : Str} {p pos : Pos} {e : Expr} {es : List Expr} {kws : List Keyword} {wa wk : WA} (tk : Takes X c.W) (M : Mk X.K (c.T.cad sh.k) f)
    (Fo : FnOk X.prog X.w X.K X.mg X.base (L2.CX X.prog X.w) j f fd ps (spI c.K c.T ps.length sh.k (ini sh.k))) (hw : ∀ ds P E, ini sh.k ds P E → ds.length + 1 = ps.length) (hr : Room (j + 1) X.A) (hg : Gl X x) (hm : X.mg x = some (.ref (c.T.cad sh.k))) (hK : X.K = c.K) (hb : KbOk X.K c.T fd ps sh)
    (ha : PA X (e :: es) (liftA c wa)) (hkw : PK X kws (liftA c wk)) (hall : (backToKw pos (keywordEach kws X.env)).all (·.1.isSome) = true) (hks : (backToKw pos (keywordEach kws X.env)).filterMap (·.1) = sh.ks)
    (hdb : (x == ("__debug__" : Str)) = false) (he : starEach (e :: es) X.env = (false, eval e X.env) :: starEach es X.env) (hpl : ((backTo pos (starEach (e :: es) X.env)).any (·.1) || (backToKw pos (keywordEach kws X.env)).any (·.1.isNone)) = false) :
    PE X (.Call (.Name x p) (e :: es) kws pos) (liftE c (wMkK (some sh) ini wa wk)) := by
  obtain ⟨g, gV, hb, hrel⟩ := hb.ex
  refine ⟨fun pins s σ H Q I ⟨F, ρ, P, E, S, w, q, x⟩ => ?_⟩
  refine wpAny_Call_Name_kw (ld_glob I hg hm ?_ hdb)
  refine PySem.W.callWith_KW (h₀ := X.base) I.ok.mod.kin M.kp hall (thn (ha.run pos pins s σ H (fun vs H1 => liftA c wk σ H1 fun zs H2 => vs.length = sh.n ∧ zs.length = sh.ks.length ∧ ∀ p dx, H2 p = none → H2 dx = none → dx ≠ p → spI c.K c.T ps.length sh.k (ini sh.k) (gV (.ref p :: vs) zs) (upd (upd H2 dx (.own p)) p (.ins (c.T.cad sh.k) dx [])) (fun v H3 => v = .non ∧ Q (.ref p) H3) (L2.WE c.W σ)) I
    ⟨F, ρ, _, E, S, w, fun ds vs F1 H1 w1 S1 e1 r1 => ⟨F1, ρ, _, E, S1, w1, fun dz zs F2 H2 w2 S2 e2 r2 => ?_, x.up e1⟩, x⟩) fun us s1 ⟨vs, H1, I1, r, q1⟩ => ?_) hpl he
  · obtain ⟨n1, n2, w2⟩ := w2
    refine ⟨by rw [← r1.length]; exact n1, by rw [← r2.length]; exact n2, ?_⟩
    split at w2
    · rename_i xs ex
      intro p dx np nd ne
      obtain ⟨us, eg, ru⟩ := hrel F2 (.ref p) vs zs ds dz xs (hK ▸ r1.mono e2) (hK ▸ r2) n1 n2 ex
      rw [eg]
      have ru : Rs c.K c.T F2 xs us := hK ▸ ru
      exact call_I S2 (by rw [← ru.length]; exact hw _ _ _ w2) ru w2 (q.up (e1.trans e2)) (x.up (e1.trans e2)) p dx np nd ne
    · exact w2.elim
  · refine thn (hkw.run pos pins s1 σ H1 _ I1 q1) fun ws s2 ⟨zs, H2, I2, rz, l1, l2, q2⟩ => ⟨I2.kIn, ?_⟩
    rw [hks]
    exact run_makeKS M Fo hr hb (passAt tk σ) I2 r rz l1 l2 q2
end
end Tr

namespace Tr
open PySem PySem.Spec PyProof.Rows L2 PySem.Calls PySem.W

/-! ### gcd of four -/
theorem run_gcd4 (a : Int) (t : Tok) (b : Int) (u : Tok) (c : Int) (v : Tok) (e : Int) (w : Tok) :
    Gives (Builtin.«math.gcd» ⟨[.int a t, .int b u, .int c v, .int e w], []⟩) (.int (((((Nat.gcd 0 a.natAbs).gcd b.natAbs).gcd c.natAbs).gcd e.natAbs : Nat) : Int)) :=
  .of_wp fun M A E s Q h => by obtain ⟨hp, g, d, tk, os⟩ := s; wp_walk; exact ⟨_, rfl, h⟩
theorem args_gcd4 (a b c d : Value) : argsOk "math.gcd" ⟨[a, b, c, d], []⟩ := by unfold argsOk; kernel_rfl
def g4 (a b c e : Int) : Int := ((((a.natAbs.gcd b.natAbs).gcd c.natAbs).gcd e.natAbs : Nat) : Int)
def rGcd4 : List V → Hp → VK → Prop := fun vs H Q => ∃ a b c e : Int, vs = [.int a, .int b, .int c, .int e] ∧ Q (.int (g4 a b c e)) H
theorem cr_gcd4 {X : Cx} : CallR X (.builtin "math.gcd") rGcd4 := by
  intro pins s σ H vs us Q I r h
  obtain ⟨a, b, c, e, rfl, q⟩ := h
  obtain ⟨t, u, v, w, rfl⟩ : ∃ t u v w, us = [.int a t, .int b u, .int c v, .int e w] := by
    cases r with
    | cons r1 r => cases r with
      | cons r2 r => cases r with
        | cons r3 r => cases r with
          | cons r4 r => cases r with
            | nil =>
              obtain ⟨t, rfl⟩ := r1
              obtain ⟨u, rfl⟩ := r2
              obtain ⟨v, rfl⟩ := r3
              obtain ⟨w, rfl⟩ := r4
              exact ⟨t, u, v, w, rfl⟩
  have g := run_gcd4 a t b u c v e w
  rw [Nat.gcd_zero_left] at g
  exact call_function_meets MGF.kind_gcd MGF.plain_gcd MGF.entry_gcd (args_gcd4 _ _ _ _) g.meets ⟨.int _, H, I.tok _, ⟨_, rfl⟩, q⟩
/-- a, b = x, y: stored from the right -/
def sPar (i j : Nat) (wa : WA) : WS := fun A ρ => wa ρ (fun ds => match ds with
  | [d, e] => A.nx ((ρ.set i (.val d)).set j (.val e))
  | _ => False) (fun x => A.xe x ρ)
end Tr

set_option maxHeartbeats 1000000
namespace TZ
open PySem RZ
open PySem.Sem (wp)

abbrev IsTupS (h : Heap) (T : Addr) (vs : List Value) : Prop := h.get? T = some { cls := .type "tuple", data := .seq vs.toArray }
structure Src where
  it : Addr
  l : Addr
  tu : Bool
def ItAt (h : Heap) (c : Src) (k : Nat) : Prop := if c.tu = true then h.IsTupleIter c.it c.l k else h.IsListIter c.it c.l k
def SqAt (h : Heap) (c : Src) (xs : Array Value) : Prop := if c.tu = true then h.IsTuple c.l xs else h.IsList c.l xs
theorem ItAt.at {h h' : Heap} {c : Src} {k : Nat} (x : ItAt h c k) (e : ∀ o, h.get? c.it = some o → h'.get? c.it = some o) : ItAt h' c k := by
  unfold ItAt at *
  split at x
  · rename_i q; rw [if_pos q]; exact let ⟨o, ho, r⟩ := x; ⟨o, e _ ho, r⟩
  · rename_i q; rw [if_neg q]; exact let ⟨o, ho, r⟩ := x; ⟨o, e _ ho, r⟩
theorem SqAt.at {h h' : Heap} {c : Src} {xs : Array Value} (x : SqAt h c xs) (e : ∀ o, h.get? c.l = some o → h'.get? c.l = some o) : SqAt h' c xs := by
  unfold SqAt at *
  split at x
  · rename_i q; rw [if_pos q]; exact let ⟨o, ho, r⟩ := x; ⟨o, e _ ho, r⟩
  · rename_i q; rw [if_neg q]; exact let ⟨o, ho, r⟩ := x; ⟨o, e _ ho, r⟩
theorem ItAt.ex {h : Heap} {c : Src} {k : Nat} (x : ItAt h c k) : ∃ o, h.get? c.it = some o ∧ ∀ v, o.data ≠ .cell v := by
  unfold ItAt at x
  split at x
  · obtain ⟨o, ho, _, d⟩ := x; exact ⟨o, ho, fun v q => by rw [d] at q; cases q⟩
  · obtain ⟨o, ho, _, d⟩ := x; exact ⟨o, ho, fun v q => by rw [d] at q; cases q⟩
section
variable {prog : Program} {w : World} {A : Around} {E : Value → Shared → Prop} {s : Shared}
theorem nextOf_item {c : Src} {k : Nat} {xs : Array Value} {x : Value} {Q : Value → Shared → Prop} (hit : ItAt s.heap c k) (hl : SqAt s.heap c xs) (hx : xs[k]? = some x)
    (hQ : ∀ h', ItAt h' c (k + 1) → Heap.SameBut c.it s.heap h' → Q x { s with heap := h' }) : wpAny (model prog w) A (Builtin.SmallTypes.nextOf (.ref c.it)) Q E s := by
  by_cases q : c.tu = true
  · unfold ItAt at hit; unfold SqAt at hl
    rw [if_pos q] at hit hl
    exact nextOf_tuple_item hit hl hx fun h' a b => hQ h' (by unfold ItAt; rw [if_pos q]; exact a) b
  · unfold ItAt at hit; unfold SqAt at hl
    rw [if_neg q] at hit hl
    exact wpAny_nextOf_list_item hit hl hx fun h' a b => hQ h' (by unfold ItAt; rw [if_neg q]; exact a) b
theorem nextOf_end {c : Src} {k : Nat} {xs : Array Value} {Q : Value → Shared → Prop} (hh : A.handled = none) (hit : ItAt s.heap c k) (hl : SqAt s.heap c xs) (hx : xs[k]? = none)
    (hE : ∀ h' e, Heap.ExtBut c.it s.heap h' → (∃ o, h'.get? e = some o ∧ o.cls = .type "StopIteration") → E (.ref e) { s with heap := h' }) : wpAny (model prog w) A (Builtin.SmallTypes.nextOf (.ref c.it)) Q E s := by
  by_cases q : c.tu = true
  · unfold ItAt at hit; unfold SqAt at hl
    rw [if_pos q] at hit hl
    exact nextOf_tuple_end hh hit hl hx hE
  · unfold ItAt at hit; unfold SqAt at hl
    rw [if_neg q] at hit hl
    exact wpAny_nextOf_list_end hh hit hl hx hE

/-- what one turn of the loop does -/
def BodyItem {β : Type} (prog : Program) (w : World) (A : Around) (E : Value → Shared → Prop) (TO : Addr) (b0 : β) (f : Value × Nat → β → Sem (ForInStep β)) : Prop :=
  ∀ (c : Src) (m k : Nat) (s : Shared) (vs : List Value) (xs : Array Value) (x : Value) (Q : ForInStep β → Shared → Prop), vs.length ≤ 60 → IsTupS s.heap TO vs → ItAt s.heap c k → SqAt s.heap c xs → xs[k]? = some x → TO ≠ c.it →
    (∀ h', IsTupS h' TO (vs.set m x) → ItAt h' c (k + 1) → h'.objs.size = s.heap.objs.size → (∀ a o, a ≠ TO → a ≠ c.it → s.heap.get? a = some o → h'.get? a = some o) → Q (.yield b0) { s with heap := h' }) →
    wpAny (model prog w) A (f (.ref c.it, m) b0) Q E s
def BodyEnd {β : Type} (prog : Program) (w : World) (A : Around) (E : Value → Shared → Prop) (z TI TO : Addr) (b0 : β) (f : Value × Nat → β → Sem (ForInStep β)) : Prop :=
  ∀ (c : Src) (m k : Nat) (s : Shared) (xs : Array Value) (Q : ForInStep β → Shared → Prop), IsZip s.heap z TI TO .ellipsis → ItAt s.heap c k → SqAt s.heap c xs → xs[k]? = none → z ≠ c.it →
    (∀ h' e, (∀ a o, a ≠ z → a ≠ c.it → s.heap.get? a = some o → h'.get? a = some o) → (∃ o, h'.get? e = some o ∧ o.cls = .type "StopIteration") → E (.ref e) { s with heap := h' }) →
    wpAny (model prog w) A (f (.ref c.it, m) b0) Q E s
theorem forIn_items {β : Type} {TO : Addr} {b0 : β} {f : Value × Nat → β → Sem (ForInStep β)} {k : Nat} (hf : BodyItem prog w A E TO b0 f) {Q : β → Shared → Prop} :
    ∀ (cs : List Src) (xs : List Value) (dn old : List Value) (s : Shared), old.length = cs.length → xs.length = cs.length → dn.length + cs.length ≤ 60 → IsTupS s.heap TO (dn ++ old) → (cs.map (·.it)).Nodup → (∀ c ∈ cs, TO ≠ c.it) → (∀ c ∈ cs, c.l ≠ TO ∧ ∀ c' ∈ cs, c.l ≠ c'.it) →
      (∀ (i : Nat) (c : Src), cs[i]? = some c → ItAt s.heap c k ∧ ∃ ys x, SqAt s.heap c ys ∧ ys[k]? = some x ∧ xs[i]? = some x) →
      (∀ h', IsTupS h' TO (dn ++ xs) → (∀ c ∈ cs, ItAt h' c (k + 1)) → h'.objs.size = s.heap.objs.size → (∀ a o, a ≠ TO → (∀ c ∈ cs, a ≠ c.it) → s.heap.get? a = some o → h'.get? a = some o) → Q b0 { s with heap := h' }) →
      wpAny (model prog w) A (forIn ((cs.map fun c => Value.ref c.it).zipIdx dn.length) b0 f) Q E s
  | [], xs, dn, old, s, l1, l2, ls, hT, nd, nt, nl, hi, hQ => by
    cases old with
    | cons _ _ => cases l1
    | nil =>
      cases xs with
      | cons _ _ => cases l2
      | nil =>
        simp only [List.map_nil, List.zipIdx_nil, List.forIn_nil]
        exact wpAny_pure (hQ s.heap hT (fun c h => by cases h) rfl fun a o _ _ e => e)
  | c :: cs, xs, dn, old, s, l1, l2, ls, hT, nd, nt, nl, hi, hQ => by
    cases old with
    | nil => cases l1
    | cons o old =>
      cases xs with
      | nil => cases l2
      | cons x xs =>
        simp only [List.map_cons, List.zipIdx_cons, List.forIn_cons]
        obtain ⟨i0, ys, x', q1, q2, q3⟩ := hi 0 c rfl
        obtain rfl : x = x' := by simpa using q3
        rw [List.map_cons, List.nodup_cons] at nd
        refine wpAny_bind (hf c dn.length k s (dn ++ o :: old) ys x _ (by simp at l1 ls ⊢; omega) hT i0 q1 q2 (nt c List.mem_cons_self) fun h' hT' i1 sz kp => ?_)
        have hT2 : IsTupS h' TO ((dn ++ [x]) ++ old) := by
          have : (dn ++ o :: old).set dn.length x = (dn ++ [x]) ++ old := by simp
          rw [← this]; exact hT'
        have go := forIn_items (k := k) hf (Q := Q) cs xs (dn ++ [x]) old { s with heap := h' } (by simpa using l1) (by simpa using l2) (by simp at ls ⊢; omega) hT2 nd.2 (fun c' h => nt c' (List.mem_cons_of_mem _ h))
          (fun c' h => ⟨(nl c' (List.mem_cons_of_mem _ h)).1, fun d hd => (nl c' (List.mem_cons_of_mem _ h)).2 d (List.mem_cons_of_mem _ hd)⟩)
          (fun i c' e => by
            obtain ⟨j0, zs, y, p1, p2, p3⟩ := hi (i + 1) c' (by simpa using e)
            have hm : c' ∈ cs := List.mem_of_getElem? e
            have n1 : c'.it ≠ c.it := fun z => nd.1 (z ▸ List.mem_map_of_mem hm)
            refine ⟨j0.at fun o' q => kp _ o' (fun z => nt c' (List.mem_cons_of_mem _ hm) z.symm) n1 q, zs, y, p1.at fun o' q => kp _ o' (nl c' (List.mem_cons_of_mem _ hm)).1 ((nl c' (List.mem_cons_of_mem _ hm)).2 c List.mem_cons_self) q, p2, by simpa using p3⟩)
          fun h2 hT3 i2 sz2 kp2 => hQ h2 (by simpa using hT3) (fun c' h => by
            rcases List.mem_cons.mp h with z | z
            · subst z
              exact i1.at fun o' q => kp2 _ o' (fun z => nt _ List.mem_cons_self z.symm) (fun d hd z => nd.1 (z ▸ List.mem_map_of_mem hd)) q
            · exact i2 c' z) (sz2.trans sz) fun a o' h1 h3 e => kp2 a o' h1 (fun d hd => h3 d (List.mem_cons_of_mem _ hd)) (kp a o' h1 (h3 c List.mem_cons_self) e)
        rw [List.length_append] at go
        exact go
theorem forIn_end {β : Type} {z TI TO : Addr} {b0 : β} {f : Value × Nat → β → Sem (ForInStep β)} {k : Nat} (hf : BodyItem prog w A E TO b0 f) (he : BodyEnd prog w A E z TI TO b0 f) {Q : β → Shared → Prop} (hTz : TO ≠ z) :
    ∀ (cs : List Src) (dn : Nat) (vs : List Value) (s : Shared), vs.length ≤ 60 → IsTupS s.heap TO vs → IsZip s.heap z TI TO .ellipsis → (cs.map (·.it)).Nodup → (∀ c ∈ cs, TO ≠ c.it ∧ z ≠ c.it) → (∀ c ∈ cs, c.l ≠ TO ∧ ∀ c' ∈ cs, c.l ≠ c'.it) →
      (∀ c ∈ cs, ItAt s.heap c k ∧ ∃ ys, SqAt s.heap c ys) → (∃ c ∈ cs, ∃ ys, SqAt s.heap c ys ∧ ys[k]? = none) →
      (∀ h' e, (∀ a o, a ≠ z → a ≠ TO → (∀ c ∈ cs, a ≠ c.it) → s.heap.get? a = some o → h'.get? a = some o) → (∃ o, h'.get? e = some o ∧ o.cls = .type "StopIteration") → E (.ref e) { s with heap := h' }) →
      wpAny (model prog w) A (forIn ((cs.map fun c => Value.ref c.it).zipIdx dn) b0 f) Q E s
  | [], dn, vs, s, lv, hT, hz, nd, nt, nl, hi, ⟨c, h, _⟩, hE => by cases h
  | c :: cs, dn, vs, s, lv, hT, hz, nd, nt, nl, hi, hx, hE => by
    simp only [List.map_cons, List.zipIdx_cons, List.forIn_cons]
    obtain ⟨i0, ys, q1⟩ := hi c List.mem_cons_self
    rw [List.map_cons, List.nodup_cons] at nd
    cases ex : ys[k]? with
    | none =>
      exact wpAny_bind (he c dn k s ys _ hz i0 q1 ex (nt c List.mem_cons_self).2 fun h' e kp st => hE h' e (fun a o h1 _ h3 g => kp a o h1 (h3 c List.mem_cons_self) g) st)
    | some x =>
      refine wpAny_bind (hf c dn k s vs ys x _ lv hT i0 q1 ex (nt c List.mem_cons_self).1 fun h' hT' i1 sz kp => ?_)
      refine forIn_end (k := k) hf he hTz cs (dn + 1) (vs.set dn x) { s with heap := h' } (by simpa using lv) hT' (kp z _ (fun q => hTz q.symm) (nt c List.mem_cons_self).2 hz) nd.2 (fun c' h => nt c' (List.mem_cons_of_mem _ h))
        (fun c' h => ⟨(nl c' (List.mem_cons_of_mem _ h)).1, fun d hd => (nl c' (List.mem_cons_of_mem _ h)).2 d (List.mem_cons_of_mem _ hd)⟩) (fun c' hm => ?_) ?_ fun h2 e kp2 st => hE h2 e (fun a o h1 h2' h3 g => kp2 a o h1 h2' (fun d hd => h3 d (List.mem_cons_of_mem _ hd)) (kp a o h2' (h3 c List.mem_cons_self) g)) st
      · obtain ⟨j0, zs, p1⟩ := hi c' (List.mem_cons_of_mem _ hm)
        have n1 : c'.it ≠ c.it := fun z => nd.1 (z ▸ List.mem_map_of_mem hm)
        exact ⟨j0.at fun o' q => kp _ o' (fun z => (nt c' (List.mem_cons_of_mem _ hm)).1 z.symm) n1 q, zs, p1.at fun o' q => kp _ o' (nl c' (List.mem_cons_of_mem _ hm)).1 ((nl c' (List.mem_cons_of_mem _ hm)).2 c List.mem_cons_self) q⟩
      · obtain ⟨d, hd, zs, p1, p2⟩ := hx
        rcases List.mem_cons.mp hd with q | q
        · subst q
          exfalso
          have : ys = zs := by
            unfold SqAt at q1 p1
            split at q1
            · rename_i r; rw [if_pos r] at p1
              obtain ⟨o1, a1, _, n1, d1⟩ := q1; obtain ⟨o2, a2, _, n2, d2⟩ := p1
              rw [a1] at a2; cases a2; rw [d1] at d2; cases d2; rfl
            · rename_i r; rw [if_neg r] at p1
              obtain ⟨o1, a1, _, n1, d1⟩ := q1; obtain ⟨o2, a2, _, n2, d2⟩ := p1
              rw [a1] at a2; cases a2; rw [d1] at d2; cases d2; rfl
          rw [this, p2] at ex; cases ex
        · exact ⟨d, q, zs, p1.at fun o' g => kp _ o' (nl d hd).1 ((nl d hd).2 c List.mem_cons_self) g, p2⟩

structure ZApart (z TI TO : Addr) (cs : List Src) : Prop where
  nd : (z :: TI :: TO :: cs.map (·.it)).Nodup
  lo : ∀ c ∈ cs, c.l ∉ z :: TI :: TO :: cs.map (·.it)
abbrev zfp (z TI TO : Addr) (cs : List Src) : List Addr := z :: TI :: TO :: cs.map (·.it)
theorem ZApart.zTI {z TI TO : Addr} {cs : List Src} (D : ZApart z TI TO cs) : z ≠ TI := fun q => by have := D.nd; simp [q] at this
theorem ZApart.zTO {z TI TO : Addr} {cs : List Src} (D : ZApart z TI TO cs) : z ≠ TO := fun q => by have := D.nd; simp [q] at this
theorem ZApart.TITO {z TI TO : Addr} {cs : List Src} (D : ZApart z TI TO cs) : TI ≠ TO := fun q => by have := D.nd; simp [q] at this
theorem ZApart.its {z TI TO : Addr} {cs : List Src} (D : ZApart z TI TO cs) : (cs.map (·.it)).Nodup := by have := D.nd; simp only [List.nodup_cons] at this; exact this.2.2.2
theorem ZApart.it {z TI TO : Addr} {cs : List Src} (D : ZApart z TI TO cs) {c : Src} (h : c ∈ cs) : z ≠ c.it ∧ TI ≠ c.it ∧ TO ≠ c.it := by
  have := D.nd
  have hm : c.it ∈ cs.map (·.it) := List.mem_map_of_mem h
  simp only [List.nodup_cons, List.mem_cons, not_or] at this
  exact ⟨fun q => this.1.2.2 (q ▸ hm), fun q => this.2.1.2 (q ▸ hm), fun q => this.2.2.1 (q ▸ hm)⟩
theorem ZApart.ll {z TI TO : Addr} {cs : List Src} (D : ZApart z TI TO cs) {c : Src} (h : c ∈ cs) : c.l ≠ z ∧ c.l ≠ TI ∧ c.l ≠ TO ∧ ∀ d ∈ cs, c.l ≠ d.it := by
  have := D.lo c h
  simp only [List.mem_cons, not_or] at this
  exact ⟨this.1, this.2.1, this.2.2.1, fun d hd q => this.2.2.2 (q ▸ List.mem_map_of_mem hd)⟩
theorem updS {T : Addr} {vs : List Value} {x : Value} {k : Nat} {Q : Unit → Shared → Prop} (hT : IsTupS s.heap T vs) (hv : vs.length ≤ 60)
    (h : ∀ h', IsTupS h' T (vs.set k x) → Heap.SameBut T s.heap h' → Q () { s with heap := h' }) : wpAny (model prog w) A (updateSeq T (·.setIfInBounds k x)) Q E s := by
  have sl : (60 : Nat) ≤ sizeLine := by decide
  refine wpAny_updateSeq hT rfl (h _ ?_ (Heap.SameBut.update ..)) (by rw [List.size_toArray]; omega) (by simp; omega)
  show Heap.get? _ _ = _
  rw [Heap.get?_update_self _ hT rfl]
  simp [Obj.mapSeq]
theorem next_item {z TI TO : Addr} {cs : List Src} {k : Nat} {old xs : List Value} {Q : Value → Shared → Prop} (D : ZApart z TI TO cs) (hne : cs ≠ []) (hln : cs.length ≤ 60)
    (hz : IsZip s.heap z TI TO .none) (hTI : IsTupS s.heap TI (cs.map fun c => .ref c.it)) (hTO : IsTupS s.heap TO old) (lo : old.length = cs.length) (lx : xs.length = cs.length)
    (hi : ∀ (i : Nat) (c : Src), cs[i]? = some c → ItAt s.heap c k ∧ ∃ ys x, SqAt s.heap c ys ∧ ys[k]? = some x ∧ xs[i]? = some x)
    (hQ : ∀ h', IsZip h' z TI TO (rawInt s.heap.objs.size) → IsTupS h' TO xs → (∀ c ∈ cs, ItAt h' c (k + 1)) → IsTupS h' s.heap.objs.size xs → h'.objs.size = s.heap.objs.size + 1 →
      (∀ a o, a ∉ zfp z TI TO cs → s.heap.get? a = some o → h'.get? a = some o) → IsTupS h' TI (cs.map fun c => .ref c.it) → Q (.ref s.heap.objs.size) { s with heap := h' }) :
    wpAny (model prog w) A (Builtin.«zip.__next__» ⟨[.ref z], []⟩) (fun fin s' => ∃ v, fin = .done (.ret v) ∧ Q v s') E s := by
  show wpAny _ _ (field (.ref z) 2 >>= _) _ _ _
  refine wpAny_bind (wpAny_field hz rfl (x := .bool false) rfl ?_)
  show wpAny _ _ (field (.ref z) 3 >>= _) _ _ _
  refine wpAny_bind (wpAny_field hz rfl (x := .ref TI) rfl ?_)
  refine wpAny_bind (wpAny_seqItems hTI rfl ?_)
  obtain ⟨c0, cs', rfl⟩ : ∃ c0 cs', cs = c0 :: cs' := by cases cs with | nil => exact absurd rfl hne | cons a b => exact ⟨a, b, rfl⟩
  show wpAny _ _ (Builtin.SmallTypes.ownedTupleIsFree (.ref z) >>= _) _ _ _
  refine wpAny_bind ?_
  unfold Builtin.SmallTypes.ownedTupleIsFree
  refine wpAny_bind (wpAny_field hz rfl (x := .none) rfl (wpAny_pure ?_))
  simp only [if_true]
  refine wpAny_bind (wpAny_rule ?_)
  refine wpAny_bind (wpAny_field hz rfl (x := .ref TO) rfl ?_)
  refine wpAny_bind (wpAny_setField_rec hz (by simp) fun h₁ hz₁ hs₁ => ?_)
  replace hz₁ : IsZip h₁ z TI TO .ellipsis := hz₁
  refine wpAny_bind ?_
  have up1 : ∀ a o, a ≠ z → s.heap.get? a = some o → h₁.get? a = some o := fun a o n e => hs₁.extBut _ _ n e
  have sl : (60 : Nat) ≤ sizeLine := by decide
  refine forIn_items (k := k) (TO := TO) (s := { s with heap := h₁ }) ?_ (c0 :: cs') xs [] old lo lx (by simpa using hln) (up1 _ _ D.zTO.symm hTO) D.its (fun c h => (D.it h).2.2) (fun c h => ⟨(D.ll h).2.2.1, (D.ll h).2.2.2⟩)
    (fun i c e => by
      obtain ⟨j, ys, x, p1, p2, p3⟩ := hi i c e
      have hm := List.mem_of_getElem? e
      exact ⟨j.at fun o q => up1 _ o (D.it hm).1.symm q, ys, x, p1.at fun o q => up1 _ o (D.ll hm).1 q, p2, p3⟩) fun h₅ hTO₅ i₅ sz₅ kp₅ => ?_
  · intro c m kk s1 vs ys x Q1 lv hT1 it1 sq1 ex ne1 hQ1
    refine wpAny_bind (wpAny_onRaise ?_)
    show wpAny _ _ (Builtin.SmallTypes.nextOf (.ref c.it) >>= _) _ _ _
    refine wpAny_bind (nextOf_item it1 sq1 ex fun h₂ it2 hs₂ => wpAny_pure ?_)
    have hTO₂ : IsTupS h₂ TO vs := hs₂.extBut _ _ ne1 hT1
    refine wpAny_bind (wpAny_seqItems hTO₂ rfl ?_)
    refine wpAny_bind (updS hTO₂ lv fun h₃ hTO₃ hs₃ => ?_)
    refine wpAny_bind (wpAny_letGo (wpAny_pure ?_))
    exact hQ1 h₃ hTO₃ (it2.at fun o q => hs₃.extBut _ _ ne1.symm q) (by rw [hs₃.1, hs₂.1]) fun a o a1 a2 e => hs₃.extBut _ _ a1 (hs₂.extBut _ _ a2 e)
  · simp only [List.nil_append] at hTO₅
    refine wpAny_bind (wpAny_seqItems hTO₅ rfl ?_)
    refine wpAny_bind (wpAny_newTuple ?_ (by simp; omega))
    have hsz : h₅.objs.size = s.heap.objs.size := by rw [sz₅]; exact hs₁.1
    have hz₅ : IsZip h₅ z TI TO .ellipsis := kp₅ _ _ D.zTO (fun c h => (D.it h).1) hz₁
    have hzlt : z < h₅.objs.size := Heap.lt_size hz₅
    show wpAny _ _ (Builtin.SmallTypes.ownedTupleHandOut (.ref z) (.ref h₅.objs.size) >>= _) _ _ _
    refine wpAny_bind ?_
    unfold Builtin.SmallTypes.ownedTupleHandOut
    have hz₆ : IsZip (h₅.push { cls := .type "tuple", data := .seq xs.toArray.toList.toArray }) z TI TO .ellipsis := Heap.get?_push_of_some _ hz₅
    refine wpAny_bind (wpAny_setField_rec hz₆ (by simp) fun h₇ hz₇ hs₇ => ?_)
    replace hz₇ : IsZip h₇ z TI TO (rawInt h₅.objs.size) := hz₇
    refine wpAny_setField_rec hz₇ (by simp) fun h₈ hz₈ hs₈ => ?_
    replace hz₈ : IsZip h₈ z TI TO (rawInt h₅.objs.size) := hz₈
    have up : ∀ a o, a ≠ z → h₅.get? a = some o → h₈.get? a = some o := fun a o c1 e => hs₈.extBut _ _ c1 (hs₇.extBut _ _ c1 (Heap.get?_push_of_some _ e))
    have hT₈ : IsTupS h₈ h₅.objs.size xs := by
      have := hs₈.extBut _ _ (Nat.ne_of_gt hzlt) (hs₇.extBut _ _ (Nat.ne_of_gt hzlt) (Heap.get?_push_size (o := { cls := .type "tuple", data := .seq xs.toArray.toList.toArray }) h₅ rfl))
      simpa using this
    have hz8 : h₈.objs.size = h₅.objs.size + 1 := by rw [hs₈.1, hs₇.1, Heap.size_push]
    rw [hsz] at hz₈ hT₈ hz8
    refine wpAny_pure ⟨_, rfl, ?_⟩
    show Q (.ref h₅.objs.size) _
    rw [hsz]
    refine hQ h₈ hz₈ (up _ _ D.zTO.symm hTO₅) (fun c h => (i₅ c h).at fun o e => up _ o (D.it h).1.symm e) hT₈ hz8 (fun a o n e => ?_) (up _ _ D.zTI.symm (kp₅ _ _ D.TITO (fun c h => (D.it h).2.1) (up1 _ _ D.zTI.symm hTI)))
    simp only [zfp, List.mem_cons, not_or] at n
    exact up a o n.1 (kp₅ a o n.2.2.1 (fun c h q => n.2.2.2 (by rw [q]; exact List.mem_map_of_mem (f := (·.it)) h)) (up1 a o n.1 e))
theorem next_end {z TI TO : Addr} {cs : List Src} {k : Nat} {old : List Value} {Q : Fin → Shared → Prop} (hh : A.handled = none) (D : ZApart z TI TO cs) (hln : cs.length ≤ 60)
    (hz : IsZip s.heap z TI TO .none) (hTI : IsTupS s.heap TI (cs.map fun c => .ref c.it)) (hTO : IsTupS s.heap TO old) (lo : old.length = cs.length)
    (hi : ∀ c ∈ cs, ItAt s.heap c k ∧ ∃ ys, SqAt s.heap c ys) (hx : ∃ c ∈ cs, ∃ ys, SqAt s.heap c ys ∧ ys[k]? = none)
    (hE : ∀ h' e, (∀ a o, a ∉ zfp z TI TO cs → s.heap.get? a = some o → h'.get? a = some o) → (∃ o, h'.get? e = some o ∧ o.cls = .type "StopIteration") → E (.ref e) { s with heap := h' }) :
    wpAny (model prog w) A (Builtin.«zip.__next__» ⟨[.ref z], []⟩) Q E s := by
  show wpAny _ _ (field (.ref z) 2 >>= _) _ _ _
  refine wpAny_bind (wpAny_field hz rfl (x := .bool false) rfl ?_)
  show wpAny _ _ (field (.ref z) 3 >>= _) _ _ _
  refine wpAny_bind (wpAny_field hz rfl (x := .ref TI) rfl ?_)
  refine wpAny_bind (wpAny_seqItems hTI rfl ?_)
  obtain ⟨c0, cs', rfl⟩ : ∃ c0 cs', cs = c0 :: cs' := by
    obtain ⟨c, h, _⟩ := hx
    cases cs with | nil => cases h | cons a b => exact ⟨a, b, rfl⟩
  show wpAny _ _ (Builtin.SmallTypes.ownedTupleIsFree (.ref z) >>= _) _ _ _
  refine wpAny_bind ?_
  unfold Builtin.SmallTypes.ownedTupleIsFree
  refine wpAny_bind (wpAny_field hz rfl (x := .none) rfl (wpAny_pure ?_))
  simp only [if_true]
  refine wpAny_bind (wpAny_rule ?_)
  refine wpAny_bind (wpAny_field hz rfl (x := .ref TO) rfl ?_)
  refine wpAny_bind (wpAny_setField_rec hz (by simp) fun h₁ hz₁ hs₁ => ?_)
  replace hz₁ : IsZip h₁ z TI TO .ellipsis := hz₁
  refine wpAny_bind ?_
  have up1 : ∀ a o, a ≠ z → s.heap.get? a = some o → h₁.get? a = some o := fun a o n e => hs₁.extBut _ _ n e
  refine forIn_end (k := k) (TO := TO) (z := z) (TI := TI) (s := { s with heap := h₁ }) ?_ ?_ D.zTO.symm (c0 :: cs') 0 old (by rw [lo]; exact hln) (up1 _ _ D.zTO.symm hTO) hz₁ D.its (fun c h => ⟨(D.it h).2.2, (D.it h).1⟩) (fun c h => ⟨(D.ll h).2.2.1, (D.ll h).2.2.2⟩)
    (fun c hm => by
      obtain ⟨j, ys, p1⟩ := hi c hm
      exact ⟨j.at fun o q => up1 _ o (D.it hm).1.symm q, ys, p1.at fun o q => up1 _ o (D.ll hm).1 q⟩)
    (by
      obtain ⟨c, hm, ys, p1, p2⟩ := hx
      exact ⟨c, hm, ys, p1.at fun o q => up1 _ o (D.ll hm).1 q, p2⟩) fun h' e kp st => hE h' e (fun a o n g => ?_) st
  · intro c m kk s1 vs ys x Q1 lv hT1 it1 sq1 ex ne1 hQ1
    refine wpAny_bind (wpAny_onRaise ?_)
    show wpAny _ _ (Builtin.SmallTypes.nextOf (.ref c.it) >>= _) _ _ _
    refine wpAny_bind (nextOf_item it1 sq1 ex fun h₂ it2 hs₂ => wpAny_pure ?_)
    have hTO₂ : IsTupS h₂ TO vs := hs₂.extBut _ _ ne1 hT1
    refine wpAny_bind (wpAny_seqItems hTO₂ rfl ?_)
    refine wpAny_bind (updS hTO₂ lv fun h₃ hTO₃ hs₃ => ?_)
    refine wpAny_bind (wpAny_letGo (wpAny_pure ?_))
    exact hQ1 h₃ hTO₃ (it2.at fun o q => hs₃.extBut _ _ ne1.symm q) (by rw [hs₃.1, hs₂.1]) fun a o a1 a2 e => hs₃.extBut _ _ a1 (hs₂.extBut _ _ a2 e)
  · intro c m kk s1 ys Q1 hz1 it1 sq1 ex ne1 hE1
    refine wpAny_bind (wpAny_onRaise ?_)
    show wpAny _ _ (Builtin.SmallTypes.nextOf (.ref c.it) >>= _) _ _ _
    refine wpAny_bind (nextOf_end hh it1 sq1 ex fun h₂ e hs₂ he => ?_)
    obtain ⟨oe, hoe, hce⟩ := he
    have hz₂ : IsZip h₂ z TI TO .ellipsis := hs₂ _ _ ne1 hz1
    have hez : e ≠ z := fun x => by subst x; rw [hz₂] at hoe; cases hoe; simp at hce
    exact wpAny_setField_rec hz₂ (by simp) fun h₃ _ hs₃ => hE1 h₃ e (fun a o c1 c3 x => hs₃.extBut _ _ c1 (hs₂ _ _ c3 x)) ⟨oe, hs₃.extBut _ _ hez hoe, hce⟩
  · simp only [zfp, List.mem_cons, not_or] at n
    exact kp a o n.1 n.2.2.1 (fun c h q => n.2.2.2 (by rw [q]; exact List.mem_map_of_mem (f := (·.it)) h)) (up1 a o n.1 g)
theorem pyNext_item {z TI TO : Addr} {cs : List Src} {k : Nat} {old xs : List Value} {Q : Option Value → Shared → Prop} (D : ZApart z TI TO cs) (hne : cs ≠ []) (hln : cs.length ≤ 60)
    (hz : IsZip s.heap z TI TO .none) (hTI : IsTupS s.heap TI (cs.map fun c => .ref c.it)) (hTO : IsTupS s.heap TO old) (lo : old.length = cs.length) (lx : xs.length = cs.length)
    (hi : ∀ (i : Nat) (c : Src), cs[i]? = some c → ItAt s.heap c k ∧ ∃ ys x, SqAt s.heap c ys ∧ ys[k]? = some x ∧ xs[i]? = some x)
    (hQ : ∀ h', IsZip h' z TI TO (rawInt s.heap.objs.size) → IsTupS h' TO xs → (∀ c ∈ cs, ItAt h' c (k + 1)) → IsTupS h' s.heap.objs.size xs → h'.objs.size = s.heap.objs.size + 1 →
      (∀ a o, a ∉ zfp z TI TO cs → s.heap.get? a = some o → h'.get? a = some o) → IsTupS h' TI (cs.map fun c => .ref c.it) → Q (some (.ref s.heap.objs.size)) { s with heap := h' }) : wpAny (model prog w) A (pyNext (.ref z)) Q E s := by
  have hT : s.TypeIs (.ref z) "zip" := ⟨_, hz, rfl⟩
  unfold pyNext
  exact wpAny_bind (wpAny_attempt (wpAny_callSpecial?_slot (name := Str.ofString "__next__") hT F.slot_zip_next
    (wpAny_call_entry F.slot_zip_next hT F.entry_zip_next
      (next_item D hne hln hz hTI hTO lo lx hi fun h' a1 a2 a3 a4 a5 a6 a7 => wpAny_pure (hQ h' a1 a2 a3 a4 a5 a6 a7)) (F.args_zip_next_1 _))))
theorem pyNext_end {z TI TO : Addr} {cs : List Src} {k : Nat} {old : List Value} {Q : Option Value → Shared → Prop} (hh : A.handled = none) (D : ZApart z TI TO cs) (hln : cs.length ≤ 60)
    (hz : IsZip s.heap z TI TO .none) (hTI : IsTupS s.heap TI (cs.map fun c => .ref c.it)) (hTO : IsTupS s.heap TO old) (lo : old.length = cs.length)
    (hi : ∀ c ∈ cs, ItAt s.heap c k ∧ ∃ ys, SqAt s.heap c ys) (hx : ∃ c ∈ cs, ∃ ys, SqAt s.heap c ys ∧ ys[k]? = none)
    (hQ : ∀ h', (∀ a o, a ∉ zfp z TI TO cs → s.heap.get? a = some o → h'.get? a = some o) → Q none { s with heap := h' }) : wpAny (model prog w) A (pyNext (.ref z)) Q E s := by
  have hT : s.TypeIs (.ref z) "zip" := ⟨_, hz, rfl⟩
  unfold pyNext
  refine wpAny_bind (wpAny_attempt (wpAny_callSpecial?_slot (name := Str.ofString "__next__") hT F.slot_zip_next
    (wpAny_call_entry F.slot_zip_next hT F.entry_zip_next (next_end hh D hln hz hTI hTO lo hi hx fun h' e hk he => ?_) (F.args_zip_next_1 _))))
  obtain ⟨o, ho, hc⟩ := he
  refine wpAny_bind (wpAny_isInstance (T := "StopIteration") (b := true) ⟨o, ho, hc⟩ isSubtype_stop ?_)
  exact wpAny_pure (hQ _ hk)
end
end TZ

set_option maxHeartbeats 4000000
namespace TZ
open PySem RZ
open PySem.Sem (wp)
abbrev itObj (tu : Bool) (l : Addr) : Obj := { cls := .type (if tu = true then "tuple_iterator" else "list_iterator"), data := .fields #[.ref l, .int 0 0] }
def SqOf (h : Heap) (l : Addr) (tu : Bool) (xs : Array Value) : Prop := if tu = true then h.IsTuple l xs else h.IsList l xs
theorem SqOf.push {h : Heap} {l : Addr} {tu : Bool} {xs : Array Value} (x : SqOf h l tu xs) (o : Obj) : SqOf (h.push o) l tu xs := by
  unfold SqOf at *
  split at x
  · rename_i q; rw [if_pos q]; exact Heap.IsTuple.push x _
  · rename_i q; rw [if_neg q]; exact Heap.IsList.push x _
theorem SqOf.lt {h : Heap} {l : Addr} {tu : Bool} {xs : Array Value} (x : SqOf h l tu xs) : l < h.objs.size := by
  unfold SqOf at x
  split at x
  · obtain ⟨o, ho, _⟩ := x; exact Heap.lt_size ho
  · obtain ⟨o, ho, _⟩ := x; exact Heap.lt_size ho
theorem itAt0 {h : Heap} {i l : Addr} {tu : Bool} (e : h.get? i = some (itObj tu l)) : ItAt h ⟨i, l, tu⟩ 0 := by
  unfold ItAt
  cases tu with
  | true => exact ⟨_, e, rfl, rfl⟩
  | false => exact ⟨_, e, rfl, rfl⟩
section
variable {prog : Program} {w : World} {A : Around} {E : Value → Shared → Prop} {s : Shared}
theorem pyIter_src {l : Addr} {tu : Bool} {xs : Array Value} {Q : Value → Shared → Prop} (hl : SqOf s.heap l tu xs)
    (hQ : Q (.ref s.heap.objs.size) { s with heap := s.heap.push (itObj tu l) }) : wpAny (model prog w) A (pyIter (.ref l)) Q E s := by
  unfold SqOf at hl
  cases tu with
  | true => exact wpAny_pyIter_tuple (by simpa using hl) hQ
  | false => exact wpAny_pyIter_list (by simpa using hl) hQ
end
abbrev pushes (h : Heap) : List Obj → Heap
  | [] => h
  | o :: r => pushes (h.push o) r
theorem pushes_size (h : Heap) : ∀ os : List Obj, (pushes h os).objs.size = h.objs.size + os.length
  | [] => rfl
  | o :: r => by
    show (pushes (h.push o) r).objs.size = _
    rw [pushes_size (h.push o) r, Heap.size_push, List.length_cons]; omega
theorem pushes_old {h : Heap} : ∀ {os : List Obj} {a : Addr} {o : Obj}, h.get? a = some o → (pushes h os).get? a = some o
  | [], a, o, e => e
  | p :: r, a, o, e => pushes_old (os := r) (Heap.get?_push_of_some _ e)
theorem pushes_get {h : Heap} : ∀ {os : List Obj} {i : Nat} {o : Obj}, os[i]? = some o → o.isFreed = false → (pushes h os).get? (h.objs.size + i) = some o
  | [], i, o, e, _ => by simp at e
  | p :: r, 0, o, e, f => by
    obtain rfl : p = o := by simpa using e
    exact pushes_old (os := r) (Heap.get?_push_size _ f)
  | p :: r, i + 1, o, e, f => by
    have := pushes_get (h := h.push p) (os := r) (i := i) (by simpa using e) f
    rw [Heap.size_push] at this
    show (pushes (h.push p) r).get? _ = _
    rw [show h.objs.size + (i + 1) = h.objs.size + 1 + i from by rw [Nat.add_assoc, Nat.add_comm 1 i]]; exact this

abbrev its2 (n : Nat) (l1 l2 : Addr) (t1 t2 : Bool) : List Obj := [itObj t1 l1, itObj t2 l2, { cls := .type "tuple", data := .seq #[.ref n, .ref (n + 1)] }, { cls := .type "tuple", data := .seq #[.none, .none] }, { cls := .type "zip", data := .fields #[.none, .bool false, .bool false, .ref (n + 2), .ref (n + 3)] }]
theorem nd_2 (n : Nat) : [n + 4, n + 2, n + 3, n + 0, n + 1].Nodup := by simp
theorem out_2 (n l : Nat) (h : l < n) : l ∉ [n + 4, n + 2, n + 3, n + 0, n + 1] := by simp; omega
theorem meets_new_2 (l1 l2 : Addr) (t1 t2 : Bool) (x1 x2 : Array Value) :
    Meets (Builtin.«zip.__new__» ⟨[.type "zip", .ref l1, .ref l2], []⟩) (fun _ R s => SqOf s.heap l1 t1 x1 ∧ SqOf s.heap l2 t2 x2 ∧
      R (.ok (.ret (.ref (s.heap.objs.size + 4)))) { s with heap := pushes s.heap (its2 s.heap.objs.size l1 l2 t1 t2) }) :=
  .of_wp fun prog w A R s h => by
    obtain ⟨hp, g, d, tk, os⟩ := s; obtain ⟨hl1, hl2, h⟩ := h
    have hsub := sub_zip
    have Hl1 : SqOf (Shared.heap ⟨hp, g, d, tk, os⟩) l1 t1 x1 := hl1
    have Hl2 : SqOf (Shared.heap ⟨(hp.push (itObj t1 l1)), g, d, tk, os⟩) l2 t2 x2 := (hl2.push _)
    wp_walk using pyIter_src Hl1, pyIter_src Hl2
    refine ⟨_, rfl, ?_⟩
    simpa [pushes, Heap.size_push, Nat.add_assoc, Builtin.SmallTypes.ownedTupleFields] using h
section
variable {prog : Program} {w : World} {A : Around} {E : Value → Shared → Prop} {s : Shared}
theorem call_2 {l1 l2 : Addr} {t1 t2 : Bool} {x1 x2 : Array Value} {Q : Value → Shared → Prop} (hl1 : SqOf s.heap l1 t1 x1) (hl2 : SqOf s.heap l2 t2 x2)
    (h : ∀ h', IsZip h' (s.heap.objs.size + 4) (s.heap.objs.size + 2) (s.heap.objs.size + 3) .none → IsTupS h' (s.heap.objs.size + 2) ([⟨s.heap.objs.size + 0, l1, t1⟩, ⟨s.heap.objs.size + 1, l2, t2⟩].map fun c : Src => .ref c.it) → IsTupS h' (s.heap.objs.size + 3) [.none, .none] →
      (∀ c ∈ ([⟨s.heap.objs.size + 0, l1, t1⟩, ⟨s.heap.objs.size + 1, l2, t2⟩] : List Src), ItAt h' c 0) → ZApart (s.heap.objs.size + 4) (s.heap.objs.size + 2) (s.heap.objs.size + 3) [⟨s.heap.objs.size + 0, l1, t1⟩, ⟨s.heap.objs.size + 1, l2, t2⟩] → (∀ c o, s.heap.get? c = some o → h'.get? c = some o) → Q (.ref (s.heap.objs.size + 4)) { s with heap := h' }) :
    wpAny (model prog w) A (call (.type "zip") [.ref l1, .ref l2]) Q E s := by
  refine callType_new F.called_zip (by decide) (F.typeCall_zip_2 _ _) (F.newCall_zip_2 _ _) (fun obj => F.args_object_init_3 obj _ _) F.entry_zip_new (meets_new_2 l1 l2 t1 t2 x1 x2) ⟨hl1, hl2, ?_⟩
  show _ ∧ _
  have g : ∀ i o, (its2 s.heap.objs.size l1 l2 t1 t2)[i]? = some o → o.isFreed = false → (pushes s.heap (its2 s.heap.objs.size l1 l2 t1 t2)).get? (s.heap.objs.size + i) = some o := fun i o e f => pushes_get e f
  refine ⟨⟨_, g 4 _ rfl rfl, rfl⟩, h _ (g 4 _ rfl rfl) (g 2 _ rfl rfl) (g 3 _ rfl rfl) ?_ ⟨?_, ?_⟩ fun c o x => pushes_old x⟩
  · intro c hc
    simp only [List.mem_cons, List.not_mem_nil, or_false] at hc
    rcases hc with rfl | rfl
    · exact itAt0 (g 0 _ rfl rfl)
    · exact itAt0 (g 1 _ rfl rfl)
  · exact nd_2 _
  · intro c hc
    have := hl1.lt
    have := hl2.lt
    simp only [List.mem_cons, List.not_mem_nil, or_false] at hc
    rcases hc with rfl | rfl <;> exact out_2 _ _ (by assumption)
end
theorem typeCall_3 (a0 a1 a2 : Value) : checkTypeCall "zip" ⟨[a0, a1, a2], []⟩ = pure () := by kernel_rfl
theorem newCall_3 (a0 a1 a2 : Value) : checkBuiltinCall "zip.__new__" ⟨[.type "zip", a0, a1, a2], []⟩ = pure () := by kernel_rfl
theorem args_3 (a0 a1 a2 a3 : Value) : argsOk "object.__init__" ⟨[a0, a1, a2, a3], []⟩ := by
  unfold argsOk; rw [signature?_of (id := "object.__init__") (n := ['_', '_', 't', 'i', 'n', 'i', '_', '_']) (o := ['t', 'c', 'e', 'j', 'b', 'o']) (by kernel_rfl) F.owner_object]; kernel_rfl
abbrev its3 (n : Nat) (l1 l2 l3 : Addr) (t1 t2 t3 : Bool) : List Obj := [itObj t1 l1, itObj t2 l2, itObj t3 l3, { cls := .type "tuple", data := .seq #[.ref n, .ref (n + 1), .ref (n + 2)] }, { cls := .type "tuple", data := .seq #[.none, .none, .none] }, { cls := .type "zip", data := .fields #[.none, .bool false, .bool false, .ref (n + 3), .ref (n + 4)] }]
theorem nd_3 (n : Nat) : [n + 5, n + 3, n + 4, n + 0, n + 1, n + 2].Nodup := by simp
theorem out_3 (n l : Nat) (h : l < n) : l ∉ [n + 5, n + 3, n + 4, n + 0, n + 1, n + 2] := by simp; omega
theorem meets_new_3 (l1 l2 l3 : Addr) (t1 t2 t3 : Bool) (x1 x2 x3 : Array Value) :
    Meets (Builtin.«zip.__new__» ⟨[.type "zip", .ref l1, .ref l2, .ref l3], []⟩) (fun _ R s => SqOf s.heap l1 t1 x1 ∧ SqOf s.heap l2 t2 x2 ∧ SqOf s.heap l3 t3 x3 ∧
      R (.ok (.ret (.ref (s.heap.objs.size + 5)))) { s with heap := pushes s.heap (its3 s.heap.objs.size l1 l2 l3 t1 t2 t3) }) :=
  .of_wp fun prog w A R s h => by
    obtain ⟨hp, g, d, tk, os⟩ := s; obtain ⟨hl1, hl2, hl3, h⟩ := h
    have hsub := sub_zip
    have Hl1 : SqOf (Shared.heap ⟨hp, g, d, tk, os⟩) l1 t1 x1 := hl1
    have Hl2 : SqOf (Shared.heap ⟨(hp.push (itObj t1 l1)), g, d, tk, os⟩) l2 t2 x2 := (hl2.push _)
    have Hl3 : SqOf (Shared.heap ⟨((hp.push (itObj t1 l1)).push (itObj t2 l2)), g, d, tk, os⟩) l3 t3 x3 := ((hl3.push _).push _)
    wp_walk using pyIter_src Hl1, pyIter_src Hl2, pyIter_src Hl3
    refine ⟨_, rfl, ?_⟩
    simpa [pushes, Heap.size_push, Nat.add_assoc, Builtin.SmallTypes.ownedTupleFields] using h
section
variable {prog : Program} {w : World} {A : Around} {E : Value → Shared → Prop} {s : Shared}
theorem call_3 {l1 l2 l3 : Addr} {t1 t2 t3 : Bool} {x1 x2 x3 : Array Value} {Q : Value → Shared → Prop} (hl1 : SqOf s.heap l1 t1 x1) (hl2 : SqOf s.heap l2 t2 x2) (hl3 : SqOf s.heap l3 t3 x3)
    (h : ∀ h', IsZip h' (s.heap.objs.size + 5) (s.heap.objs.size + 3) (s.heap.objs.size + 4) .none → IsTupS h' (s.heap.objs.size + 3) ([⟨s.heap.objs.size + 0, l1, t1⟩, ⟨s.heap.objs.size + 1, l2, t2⟩, ⟨s.heap.objs.size + 2, l3, t3⟩].map fun c : Src => .ref c.it) → IsTupS h' (s.heap.objs.size + 4) [.none, .none, .none] →
      (∀ c ∈ ([⟨s.heap.objs.size + 0, l1, t1⟩, ⟨s.heap.objs.size + 1, l2, t2⟩, ⟨s.heap.objs.size + 2, l3, t3⟩] : List Src), ItAt h' c 0) → ZApart (s.heap.objs.size + 5) (s.heap.objs.size + 3) (s.heap.objs.size + 4) [⟨s.heap.objs.size + 0, l1, t1⟩, ⟨s.heap.objs.size + 1, l2, t2⟩, ⟨s.heap.objs.size + 2, l3, t3⟩] → (∀ c o, s.heap.get? c = some o → h'.get? c = some o) → Q (.ref (s.heap.objs.size + 5)) { s with heap := h' }) :
    wpAny (model prog w) A (call (.type "zip") [.ref l1, .ref l2, .ref l3]) Q E s := by
  refine callType_new F.called_zip (by decide) (typeCall_3 _ _ _) (newCall_3 _ _ _) (fun obj => args_3 obj _ _ _) F.entry_zip_new (meets_new_3 l1 l2 l3 t1 t2 t3 x1 x2 x3) ⟨hl1, hl2, hl3, ?_⟩
  show _ ∧ _
  have g : ∀ i o, (its3 s.heap.objs.size l1 l2 l3 t1 t2 t3)[i]? = some o → o.isFreed = false → (pushes s.heap (its3 s.heap.objs.size l1 l2 l3 t1 t2 t3)).get? (s.heap.objs.size + i) = some o := fun i o e f => pushes_get e f
  refine ⟨⟨_, g 5 _ rfl rfl, rfl⟩, h _ (g 5 _ rfl rfl) (g 3 _ rfl rfl) (g 4 _ rfl rfl) ?_ ⟨?_, ?_⟩ fun c o x => pushes_old x⟩
  · intro c hc
    simp only [List.mem_cons, List.not_mem_nil, or_false] at hc
    rcases hc with rfl | rfl | rfl
    · exact itAt0 (g 0 _ rfl rfl)
    · exact itAt0 (g 1 _ rfl rfl)
    · exact itAt0 (g 2 _ rfl rfl)
  · exact nd_3 _
  · intro c hc
    have := hl1.lt
    have := hl2.lt
    have := hl3.lt
    simp only [List.mem_cons, List.not_mem_nil, or_false] at hc
    rcases hc with rfl | rfl | rfl <;> exact out_3 _ _ (by assumption)
end
theorem typeCall_4 (a0 a1 a2 a3 : Value) : checkTypeCall "zip" ⟨[a0, a1, a2, a3], []⟩ = pure () := by kernel_rfl
theorem newCall_4 (a0 a1 a2 a3 : Value) : checkBuiltinCall "zip.__new__" ⟨[.type "zip", a0, a1, a2, a3], []⟩ = pure () := by kernel_rfl
theorem args_4 (a0 a1 a2 a3 a4 : Value) : argsOk "object.__init__" ⟨[a0, a1, a2, a3, a4], []⟩ := by
  unfold argsOk; rw [signature?_of (id := "object.__init__") (n := ['_', '_', 't', 'i', 'n', 'i', '_', '_']) (o := ['t', 'c', 'e', 'j', 'b', 'o']) (by kernel_rfl) F.owner_object]; kernel_rfl
abbrev its4 (n : Nat) (l1 l2 l3 l4 : Addr) (t1 t2 t3 t4 : Bool) : List Obj := [itObj t1 l1, itObj t2 l2, itObj t3 l3, itObj t4 l4, { cls := .type "tuple", data := .seq #[.ref n, .ref (n + 1), .ref (n + 2), .ref (n + 3)] }, { cls := .type "tuple", data := .seq #[.none, .none, .none, .none] }, { cls := .type "zip", data := .fields #[.none, .bool false, .bool false, .ref (n + 4), .ref (n + 5)] }]
theorem nd_4 (n : Nat) : [n + 6, n + 4, n + 5, n + 0, n + 1, n + 2, n + 3].Nodup := by simp
theorem out_4 (n l : Nat) (h : l < n) : l ∉ [n + 6, n + 4, n + 5, n + 0, n + 1, n + 2, n + 3] := by simp; omega
theorem meets_new_4 (l1 l2 l3 l4 : Addr) (t1 t2 t3 t4 : Bool) (x1 x2 x3 x4 : Array Value) :
    Meets (Builtin.«zip.__new__» ⟨[.type "zip", .ref l1, .ref l2, .ref l3, .ref l4], []⟩) (fun _ R s => SqOf s.heap l1 t1 x1 ∧ SqOf s.heap l2 t2 x2 ∧ SqOf s.heap l3 t3 x3 ∧ SqOf s.heap l4 t4 x4 ∧
      R (.ok (.ret (.ref (s.heap.objs.size + 6)))) { s with heap := pushes s.heap (its4 s.heap.objs.size l1 l2 l3 l4 t1 t2 t3 t4) }) :=
  .of_wp fun prog w A R s h => by
    obtain ⟨hp, g, d, tk, os⟩ := s; obtain ⟨hl1, hl2, hl3, hl4, h⟩ := h
    have hsub := sub_zip
    have Hl1 : SqOf (Shared.heap ⟨hp, g, d, tk, os⟩) l1 t1 x1 := hl1
    have Hl2 : SqOf (Shared.heap ⟨(hp.push (itObj t1 l1)), g, d, tk, os⟩) l2 t2 x2 := (hl2.push _)
    have Hl3 : SqOf (Shared.heap ⟨((hp.push (itObj t1 l1)).push (itObj t2 l2)), g, d, tk, os⟩) l3 t3 x3 := ((hl3.push _).push _)
    have Hl4 : SqOf (Shared.heap ⟨(((hp.push (itObj t1 l1)).push (itObj t2 l2)).push (itObj t3 l3)), g, d, tk, os⟩) l4 t4 x4 := (((hl4.push _).push _).push _)
    wp_walk using pyIter_src Hl1, pyIter_src Hl2, pyIter_src Hl3, pyIter_src Hl4
    refine ⟨_, rfl, ?_⟩
    simpa [pushes, Heap.size_push, Nat.add_assoc, Builtin.SmallTypes.ownedTupleFields] using h
section
variable {prog : Program} {w : World} {A : Around} {E : Value → Shared → Prop} {s : Shared}
theorem call_4 {l1 l2 l3 l4 : Addr} {t1 t2 t3 t4 : Bool} {x1 x2 x3 x4 : Array Value} {Q : Value → Shared → Prop} (hl1 : SqOf s.heap l1 t1 x1) (hl2 : SqOf s.heap l2 t2 x2) (hl3 : SqOf s.heap l3 t3 x3) (hl4 : SqOf s.heap l4 t4 x4)
    (h : ∀ h', IsZip h' (s.heap.objs.size + 6) (s.heap.objs.size + 4) (s.heap.objs.size + 5) .none → IsTupS h' (s.heap.objs.size + 4) ([⟨s.heap.objs.size + 0, l1, t1⟩, ⟨s.heap.objs.size + 1, l2, t2⟩, ⟨s.heap.objs.size + 2, l3, t3⟩, ⟨s.heap.objs.size + 3, l4, t4⟩].map fun c : Src => .ref c.it) → IsTupS h' (s.heap.objs.size + 5) [.none, .none, .none, .none] →
      (∀ c ∈ ([⟨s.heap.objs.size + 0, l1, t1⟩, ⟨s.heap.objs.size + 1, l2, t2⟩, ⟨s.heap.objs.size + 2, l3, t3⟩, ⟨s.heap.objs.size + 3, l4, t4⟩] : List Src), ItAt h' c 0) → ZApart (s.heap.objs.size + 6) (s.heap.objs.size + 4) (s.heap.objs.size + 5) [⟨s.heap.objs.size + 0, l1, t1⟩, ⟨s.heap.objs.size + 1, l2, t2⟩, ⟨s.heap.objs.size + 2, l3, t3⟩, ⟨s.heap.objs.size + 3, l4, t4⟩] → (∀ c o, s.heap.get? c = some o → h'.get? c = some o) → Q (.ref (s.heap.objs.size + 6)) { s with heap := h' }) :
    wpAny (model prog w) A (call (.type "zip") [.ref l1, .ref l2, .ref l3, .ref l4]) Q E s := by
  refine callType_new F.called_zip (by decide) (typeCall_4 _ _ _ _) (newCall_4 _ _ _ _) (fun obj => args_4 obj _ _ _ _) F.entry_zip_new (meets_new_4 l1 l2 l3 l4 t1 t2 t3 t4 x1 x2 x3 x4) ⟨hl1, hl2, hl3, hl4, ?_⟩
  show _ ∧ _
  have g : ∀ i o, (its4 s.heap.objs.size l1 l2 l3 l4 t1 t2 t3 t4)[i]? = some o → o.isFreed = false → (pushes s.heap (its4 s.heap.objs.size l1 l2 l3 l4 t1 t2 t3 t4)).get? (s.heap.objs.size + i) = some o := fun i o e f => pushes_get e f
  refine ⟨⟨_, g 6 _ rfl rfl, rfl⟩, h _ (g 6 _ rfl rfl) (g 4 _ rfl rfl) (g 5 _ rfl rfl) ?_ ⟨?_, ?_⟩ fun c o x => pushes_old x⟩
  · intro c hc
    simp only [List.mem_cons, List.not_mem_nil, or_false] at hc
    rcases hc with rfl | rfl | rfl | rfl
    · exact itAt0 (g 0 _ rfl rfl)
    · exact itAt0 (g 1 _ rfl rfl)
    · exact itAt0 (g 2 _ rfl rfl)
    · exact itAt0 (g 3 _ rfl rfl)
  · exact nd_4 _
  · intro c hc
    have := hl1.lt
    have := hl2.lt
    have := hl3.lt
    have := hl4.lt
    simp only [List.mem_cons, List.not_mem_nil, or_false] at hc
    rcases hc with rfl | rfl | rfl | rfl <;> exact out_4 _ _ (by assumption)
end
end TZ

namespace Tr
open PySem PySem.Spec PyProof.Rows L2 TZ

/-! ### zip of several lists and tuples -/
def SqE (K : PySem.W.Frag) (H : Hp) (c : Src) (xs : List V) : Prop := if c.tu = true then SqT K H c.l xs else SqL K H c.l xs
theorem SqE.up {K : PySem.W.Frag} {H H' : Hp} {c : Src} {xs : List V} (h : SqE K H c xs) (e : Same H H') : SqE K H' c xs := by
  unfold SqE at *
  split at h
  · rename_i q; rw [if_pos q]; exact SqT.sub e h
  · rename_i q; rw [if_neg q]; exact e.seq h
theorem SqE.sub {K : PySem.W.Frag} {H H' : Hp} {c : Src} {xs : List V} (h : SqE K H c xs) (e : Sub H H') : SqE K H' c xs := by
  unfold SqE at *
  split at h
  · rename_i q; rw [if_pos q]; exact e.sqT h
  · rename_i q; rw [if_neg q]; exact e.seq h
/-- the sequences as they stand at each turn, the items in new tuples -/
def Itzn (K : PySem.W.Frag) (cs : List Src) : It :=
  ⟨fun i H => ∀ c ∈ cs, ∃ xs x, SqE K H c xs ∧ xs[i]? = some x,
    fun i H v H' => ∃ T ys, v = .ref T ∧ H T = none ∧ H' = upd H T (.tup ys) ∧ ys.length = cs.length ∧ ∀ (j : Nat) (c : Src), cs[j]? = some c → ∀ xs, SqE K H c xs → ∃ x, xs[i]? = some x ∧ ys[j]? = some x,
    fun i H => (∀ c ∈ cs, ∃ xs, SqE K H c xs) ∧ ∃ c ∈ cs, ∃ xs, SqE K H c xs ∧ xs.length ≤ i⟩
theorem SqE.at {X : Cx} {pins : List (Addr × Obj)} {σ : L2.St} {H : Hp} {s : Shared} (I : Inv X pins σ H s) {c : Src} {xs : List V} (h : SqE X.K H c xs) : ∃ its, Vals xs its ∧ SqAt s.heap c its.toArray := by
  unfold SqE at h
  split at h
  · rename_i q
    obtain ⟨its, rv, p, _⟩ := I.tuple h
    exact ⟨its, rv, by unfold SqAt; rw [if_pos q]; exact p⟩
  · rename_i q
    obtain ⟨its, rv, p, _⟩ := I.list h
    exact ⟨its, rv, by unfold SqAt; rw [if_neg q]; exact p.isList⟩
theorem SqE.inj {X : Cx} {pins : List (Addr × Obj)} {σ : L2.St} {H : Hp} {s : Shared} (I : Inv X pins σ H s) {c : Src} {xs ys : List V} (h : SqE X.K H c xs) (g : SqE X.K H c ys) : xs = ys := by
  unfold SqE at h g
  split at h
  · rename_i q; rw [if_pos q] at g; exact I.tuple_inj h g
  · rename_i q; rw [if_neg q] at g; exact I.list_inj h g
theorem rows_of {X : Cx} {pins : List (Addr × Obj)} {σ : L2.St} {H : Hp} {s : Shared} (I : Inv X pins σ H s) {i : Nat} : ∀ cs : List Src, (∀ c ∈ cs, ∃ xs x, SqE X.K H c xs ∧ xs[i]? = some x) →
    ∃ ys us, Vals ys us ∧ ys.length = cs.length ∧ ∀ (j : Nat) (c : Src), cs[j]? = some c → (∃ zs u, SqAt s.heap c zs ∧ zs[i]? = some u ∧ us[j]? = some u) ∧ ∀ xs, SqE X.K H c xs → ∃ x, xs[i]? = some x ∧ ys[j]? = some x
  | [], _ => ⟨[], [], .nil, rfl, fun j c e => by simp at e⟩
  | c :: cs, h => by
    obtain ⟨ys, us, rv, l, hj⟩ := rows_of I cs fun d hd => h d (List.mem_cons_of_mem _ hd)
    obtain ⟨xs, x, sq, ex⟩ := h c List.mem_cons_self
    obtain ⟨its, rv1, sa⟩ := sq.at I
    obtain ⟨u, eu, ru⟩ := rv1.get ex
    refine ⟨x :: ys, u :: us, .cons ru rv, by simp [l], fun j d e => ?_⟩
    cases j with
    | zero =>
      obtain rfl : c = d := by simpa using e
      exact ⟨⟨_, u, sa, by simpa using eu, rfl⟩, fun zs hz => ⟨x, by rw [hz.inj I sq]; exact ex, rfl⟩⟩
    | succ j => simpa using hj j d (by simpa using e)
theorem turn_zipN {P : Program} {w : World} {K : PySem.W.Frag} {elts : List Expr} {kk : Nat} {tpos : Pos} {z TI TO : Addr} {cs : List Src} (D : ZApart z TI TO cs) (hne : cs ≠ []) (hln : cs.length ≤ 60) :
    Turn P w K (.Tuple elts kk tpos) (Itzn K cs) (zfp z TI TO cs) z (fun i h => IsZip h z TI TO .none ∧ IsTupS h TI (cs.map fun c => .ref c.it) ∧ (∃ old, old.length = cs.length ∧ IsTupS h TO old) ∧ ∀ c ∈ cs, ItAt h c i) where
  mem := List.mem_cons_self
  obj := fun i h st c hc => by
    obtain ⟨hz, hTI, ⟨old, _, hTO⟩, hi⟩ := st
    simp only [zfp, List.mem_cons] at hc
    rcases hc with q | q | q | q
    · rw [q]; exact ⟨_, hz, fun v q => nomatch q⟩
    · rw [q]; exact ⟨_, hTI, fun v q => nomatch q⟩
    · rw [q]; exact ⟨_, hTO, fun v q => nomatch q⟩
    · obtain ⟨d, hd, rfl⟩ := List.mem_map.mp q
      exact (hi d hd).ex
  keep := fun i h h' st k => by
    obtain ⟨hz, hTI, ⟨old, l, hTO⟩, hi⟩ := st
    exact ⟨k z (by simp [zfp]) _ hz, k TI (by simp [zfp]) _ hTI, ⟨old, l, k TO (by simp [zfp]) _ hTO⟩, fun c hc => (hi c hc).at fun o q => k c.it (by simp only [zfp, List.mem_cons]; exact .inr (.inr (.inr (List.mem_map_of_mem (f := (·.it)) hc)))) o q⟩
  item := by
    intro X hP hw hK hc i pins s σ H E I hf st hg
    subst hP hw hK
    obtain ⟨hz, hTI, ⟨old, lo, hTO⟩, hi⟩ := st
    obtain ⟨ys, us, rv, ly, hj⟩ := rows_of I cs hg
    have hzl : z < s.heap.objs.size := Heap.lt_size hz
    refine pyNext_item D hne hln hz hTI hTO lo (xs := us) (by rw [← rv.length]; exact ly) (fun j c e => ⟨hi c (List.mem_of_getElem? e), (hj j c e).1⟩) fun h' z' TO' i' hT hsz hk TI' => ?_
    refine ⟨_, rfl, wpAny_letOwnedTupleGo_zip (s := { s with heap := h' }) z' fun h'' z'' sb => ?_⟩
    have hT2 : h''.get? s.heap.objs.size = some { cls := .type "tuple", data := .seq us.toArray } := (sb.2 _ (Nat.ne_of_gt hzl)).trans hT
    have sl : (60 : Nat) ≤ sizeLine := by decide
    have new : ObjOk X.prog X.w (upd H s.heap.objs.size (.tup ys)) h'' s.heap.objs.size (.tup ys) :=
      ⟨by show ys.length ≤ sizeLine; omega, us, rv, ⟨_, hT2, rfl, _, rfl⟩⟩
    have I1 : Inv X pins σ (upd H s.heap.objs.size (.tup ys)) { s with heap := h'' } :=
      I.turnedNew (t' := s.toks) (ch := zfp z TI TO cs) (fun c o hb q => (sb.2 c (fun q' => hb (by simp [zfp, q']))).trans (hk c o hb q)) hf (Nat.le_refl _) new
    refine ⟨.ref s.heap.objs.size, _, I1, rfl, ⟨_, ys, rfl, I.hok.fresh (Nat.le_refl _), rfl, ly, fun j c e => (hj j c e).2⟩, ⟨z'', (sb.2 _ D.zTI.symm).trans TI', ⟨us, by rw [← rv.length]; exact ly, (sb.2 _ D.zTO.symm).trans TO'⟩, fun c hc => (i' c hc).at fun o q => (sb.2 _ (D.it hc).1.symm).trans q⟩, fun c hcm => ?_⟩
    have hlt : c < s.heap.objs.size := by
      simp only [zfp, List.mem_cons] at hcm
      rcases hcm with q | q | q | q
      · rw [q]; exact hzl
      · rw [q]; exact Heap.lt_size hTI
      · rw [q]; exact Heap.lt_size hTO
      · obtain ⟨d, hd, rfl⟩ := List.mem_map.mp q
        obtain ⟨o, e, _⟩ := (hi d hd).ex
        exact Heap.lt_size e
    rw [upd_ne (Nat.ne_of_lt hlt)]
    exact (hf c hcm).1
  done := by
    intro X hP hw hK hc i pins s σ H E I hf st hg
    subst hP hw hK
    obtain ⟨hz, hTI, ⟨old, lo, hTO⟩, hi⟩ := st
    obtain ⟨hall, c, hcm, xs, sq, hend⟩ := hg
    refine pyNext_end (I.ok.hd hc) D hln hz hTI hTO lo (fun d hd => ⟨hi d hd, ?_⟩) ⟨c, hcm, ?_⟩ fun h' hk => ⟨rfl, I.turnedL (t' := s.toks) (ch := zfp z TI TO cs) hk hf⟩
    · obtain ⟨zs, q⟩ := hall d hd
      obtain ⟨its, _, p⟩ := q.at I
      exact ⟨_, p⟩
    · obtain ⟨its, rv, p⟩ := sq.at I
      have := rv.length
      exact ⟨_, p, by simp; omega⟩
  self := fun A i s Q E st h => wpAny_pyIter_zip st.1 h

/-- what comes of the arguments -/
def iZn (K : PySem.W.Frag) (n : Nat) (ta : TA) : TI := fun σ H R => ta σ H fun vs H1 => ∃ cs : List (Addr × Bool), vs = cs.map (fun p => V.ref p.1) ∧ cs.length = n ∧ (∀ p ∈ cs, ∃ xs, SqE K H1 ⟨0, p.1, p.2⟩ xs) ∧ ∀ ds : List Src, ds.map (fun d => (d.l, d.tu)) = cs → R (Itzn K ds) H1
theorem SqE.of {X : Cx} {pins : List (Addr × Obj)} {σ : L2.St} {H : Hp} {s : Shared} (I : Inv X pins σ H s) {l : Addr} {tu : Bool} {xs : List V} (h : SqE X.K H ⟨0, l, tu⟩ xs) : ∃ its, SqOf s.heap l tu its := by
  obtain ⟨its, _, p⟩ := h.at I
  exact ⟨_, p⟩
theorem fresh_zfp {X : Cx} {pins : List (Addr × Obj)} {σ : L2.St} {H : Hp} {s : Shared} (I : Inv X pins σ H s) (fp : List Addr) (h : ∀ c ∈ fp, s.heap.objs.size ≤ c) : ∀ c ∈ fp, FpOk X pins H c := fun c hc => I.fpOk (h c hc) (I.hok.fresh (h c hc))
theorem fr_2 (n : Nat) : ∀ c ∈ [n + 4, n + 2, n + 3, n + 0, n + 1], n ≤ c := by simp
theorem fr_3 (n : Nat) : ∀ c ∈ [n + 5, n + 3, n + 4, n + 0, n + 1, n + 2], n ≤ c := by simp
theorem fr_4 (n : Nat) : ∀ c ∈ [n + 6, n + 4, n + 5, n + 0, n + 1, n + 2, n + 3], n ≤ c := by simp
theorem pi_z2 {X : Cx} {e : Expr} {es : List Expr} {ta : TA} {p pos tpos : Pos} {elts : List Expr} {kk : Nat} (hg : Gl X "zip") (hm : X.mg "zip" = none) (ha : PA X (e :: es) ta)
    (hs : starEach (e :: es) X.env = (false, eval e X.env) :: starEach es X.env) (hpl : (backTo pos (starEach es X.env)).any (·.1) = false) :
    PI X (.Tuple elts kk tpos) (.Call (.Name "zip" p) (e :: es) [] pos) (iZn X.K 2 ta) := by
  refine ⟨fun pins s σ H R I h => ?_⟩
  refine Call_ (ld_blt I hg hm PyProof.Rows.boot_zip (PyProof.Rows.callWith_type1 (thn (ha.run pos pins s σ H _ I h) fun us s1 ⟨vs, H1, I1, r1, q1⟩ => ?_) hs hpl))
  obtain ⟨cs, rfl, ln, hq, q⟩ := q1
  match cs, ln with
  | [(l1, t1), (l2, t2)], _ =>
    obtain ⟨_, q1⟩ := hq (l1, t1) (by simp)
    obtain ⟨_, q2⟩ := hq (l2, t2) (by simp)
    obtain ⟨x1, p1⟩ := q1.of I1
    obtain ⟨x2, p2⟩ := q2.of I1
    cases r1 with
    | cons ra rr =>
      cases rr with
      | cons rb rr =>
        cases rr; cases ra; cases rb
        refine call_2 p1 p2 fun h' hz hTI hTO hi D hk => wpAny_pyIter_zip hz ?_
        have I2 : Inv X pins σ H1 { s1 with heap := h' } := I1.kept (t' := s1.toks) hk
        exact ⟨_, _, _, _, H1, rfl, I2, turn_zipN D (by simp) (by simp), ⟨hz, hTI, ⟨_, rfl, hTO⟩, hi⟩, fresh_zfp I1 _ (fr_2 _), q _ rfl⟩
theorem pi_z3 {X : Cx} {e : Expr} {es : List Expr} {ta : TA} {p pos tpos : Pos} {elts : List Expr} {kk : Nat} (hg : Gl X "zip") (hm : X.mg "zip" = none) (ha : PA X (e :: es) ta)
    (hs : starEach (e :: es) X.env = (false, eval e X.env) :: starEach es X.env) (hpl : (backTo pos (starEach es X.env)).any (·.1) = false) :
    PI X (.Tuple elts kk tpos) (.Call (.Name "zip" p) (e :: es) [] pos) (iZn X.K 3 ta) := by
  refine ⟨fun pins s σ H R I h => ?_⟩
  refine Call_ (ld_blt I hg hm PyProof.Rows.boot_zip (PyProof.Rows.callWith_type1 (thn (ha.run pos pins s σ H _ I h) fun us s1 ⟨vs, H1, I1, r1, q1⟩ => ?_) hs hpl))
  obtain ⟨cs, rfl, ln, hq, q⟩ := q1
  match cs, ln with
  | [(l1, t1), (l2, t2), (l3, t3)], _ =>
    obtain ⟨_, q1⟩ := hq (l1, t1) (by simp)
    obtain ⟨_, q2⟩ := hq (l2, t2) (by simp)
    obtain ⟨_, q3⟩ := hq (l3, t3) (by simp)
    obtain ⟨x1, p1⟩ := q1.of I1
    obtain ⟨x2, p2⟩ := q2.of I1
    obtain ⟨x3, p3⟩ := q3.of I1
    cases r1 with
    | cons ra rr =>
      cases rr with
      | cons rb rr =>
        cases rr with
        | cons rc rr =>
          cases rr; cases ra; cases rb; cases rc
          refine call_3 p1 p2 p3 fun h' hz hTI hTO hi D hk => wpAny_pyIter_zip hz ?_
          have I2 : Inv X pins σ H1 { s1 with heap := h' } := I1.kept (t' := s1.toks) hk
          exact ⟨_, _, _, _, H1, rfl, I2, turn_zipN D (by simp) (by simp), ⟨hz, hTI, ⟨_, rfl, hTO⟩, hi⟩, fresh_zfp I1 _ (fr_3 _), q _ rfl⟩

theorem pi_z4 {X : Cx} {e : Expr} {es : List Expr} {ta : TA} {p pos tpos : Pos} {elts : List Expr} {kk : Nat} (hg : Gl X "zip") (hm : X.mg "zip" = none) (ha : PA X (e :: es) ta)
    (hs : starEach (e :: es) X.env = (false, eval e X.env) :: starEach es X.env) (hpl : (backTo pos (starEach es X.env)).any (·.1) = false) :
    PI X (.Tuple elts kk tpos) (.Call (.Name "zip" p) (e :: es) [] pos) (iZn X.K 4 ta) := by
  refine ⟨fun pins s σ H R I h => ?_⟩
  refine Call_ (ld_blt I hg hm PyProof.Rows.boot_zip (PyProof.Rows.callWith_type1 (thn (ha.run pos pins s σ H _ I h) fun us s1 ⟨vs, H1, I1, r1, q1⟩ => ?_) hs hpl))
  obtain ⟨cs, rfl, ln, hq, q⟩ := q1
  match cs, ln with
  | [(l1, t1), (l2, t2), (l3, t3), (l4, t4)], _ =>
    obtain ⟨_, q1⟩ := hq (l1, t1) (by simp)
    obtain ⟨_, q2⟩ := hq (l2, t2) (by simp)
    obtain ⟨_, q3⟩ := hq (l3, t3) (by simp)
    obtain ⟨_, q4⟩ := hq (l4, t4) (by simp)
    obtain ⟨x1, p1⟩ := q1.of I1
    obtain ⟨x2, p2⟩ := q2.of I1
    obtain ⟨x3, p3⟩ := q3.of I1
    obtain ⟨x4, p4⟩ := q4.of I1
    cases r1 with
    | cons ra rr =>
      cases rr with
      | cons rb rr =>
        cases rr with
        | cons rc rr =>
          cases rr with
          | cons rd rr =>
            cases rr; cases ra; cases rb; cases rc; cases rd
            refine call_4 p1 p2 p3 p4 fun h' hz hTI hTO hi D hk => wpAny_pyIter_zip hz ?_
            have I2 : Inv X pins σ H1 { s1 with heap := h' } := I1.kept (t' := s1.toks) hk
            exact ⟨_, _, _, _, H1, rfl, I2, turn_zipN D (by simp) (by simp), ⟨hz, hTI, ⟨_, rfl, hTO⟩, hi⟩, fresh_zfp I1 _ (fr_4 _), q _ rfl⟩

/-! trees -/
def seqD : D → Option (List D)
  | .lst xs => some xs
  | .tup xs => some xs
  | _ => none
def seqDs : List D → Option (List (List D))
  | [] => some []
  | d :: r => match seqD d, seqDs r with
    | some x, some xs => some (x :: xs)
    | _, _ => none
def minL : List (List D) → Nat
  | [] => 0
  | [r] => r.length
  | r :: s :: t => min r.length (minL (s :: t))
def zipD (rows : List (List D)) : List D := (List.range (minL rows)).map fun i => .tup (rows.map fun r => r.getD i .non)
def wZipN (n : Nat) (wa : WA) : WI := fun ρ P E => wa ρ (fun ds => ds.length = n ∧ hasI (seqDs ds) fun rows => P (zipD rows)) E
theorem minL_le : ∀ {rows : List (List D)} {r : List D}, r ∈ rows → minL rows ≤ r.length
  | [], r, h => by cases h
  | [a], r, h => by
    obtain rfl : r = a := by simpa using h
    exact Nat.le_refl _
  | a :: b :: t, r, h => by
    rcases List.mem_cons.mp h with q | q
    · subst q; exact Nat.min_le_left _ _
    · exact Nat.le_trans (Nat.min_le_right _ _) (minL_le q)
theorem minL_ex : ∀ {rows : List (List D)}, rows ≠ [] → ∃ r ∈ rows, r.length = minL rows
  | [], h => absurd rfl h
  | [a], _ => ⟨a, by simp, rfl⟩
  | a :: b :: t, _ => by
    obtain ⟨r, h1, h2⟩ := minL_ex (rows := b :: t) (by simp)
    show ∃ r ∈ a :: b :: t, r.length = min a.length (minL (b :: t))
    rcases Nat.le_total a.length (minL (b :: t)) with q | q
    · exact ⟨a, by simp, by rw [Nat.min_eq_left q]⟩
    · exact ⟨r, List.mem_cons_of_mem _ h1, by rw [Nat.min_eq_right q]; exact h2⟩
section
variable {c : Ct} {X : Cx}
/-- the rows stand at the sources -/
inductive RowsAt (c : Ct) (G : Hp) : List Src → List (List D) → Prop
  | nil : RowsAt c G [] []
  | cons {s : Src} {r : List D} {ss : List Src} {rs : List (List D)} {vs : List V} (h : SqE c.K G s vs) (q : Rs c.K c.T G r vs) (t : RowsAt c G ss rs) : RowsAt c G (s :: ss) (r :: rs)
theorem RowsAt.len {G : Hp} {ss : List Src} {rs : List (List D)} (h : RowsAt c G ss rs) : ss.length = rs.length := by
  induction h with
  | nil => rfl
  | cons _ _ _ ih => simp [ih]
theorem RowsAt.src {G : Hp} {ss : List Src} {rs : List (List D)} (h : RowsAt c G ss rs) : ∀ s ∈ ss, ∃ r ∈ rs, ∃ vs, SqE c.K G s vs ∧ Rs c.K c.T G r vs := by
  induction h with
  | nil => intro s e; cases e
  | cons a b _ ih =>
    intro s e
    rcases List.mem_cons.mp e with z | z
    · subst z; exact ⟨_, List.mem_cons_self, _, a, b⟩
    · obtain ⟨r, h1, h2⟩ := ih s z
      exact ⟨r, List.mem_cons_of_mem _ h1, h2⟩
theorem RowsAt.row {G : Hp} {ss : List Src} {rs : List (List D)} (h : RowsAt c G ss rs) : ∀ r ∈ rs, ∃ s ∈ ss, ∃ vs, SqE c.K G s vs ∧ Rs c.K c.T G r vs := by
  induction h with
  | nil => intro s e; cases e
  | cons a b _ ih =>
    intro s e
    rcases List.mem_cons.mp e with z | z
    · subst z; exact ⟨_, List.mem_cons_self, _, a, b⟩
    · obtain ⟨r, h1, h2⟩ := ih s z
      exact ⟨r, List.mem_cons_of_mem _ h1, h2⟩
/-- one turn's tuple -/
theorem RowsAt.turn {G H : Hp} {i : Nat} (hGH : Sub G H) {ss : List Src} {rs : List (List D)} (h : RowsAt c G ss rs) : (∀ r ∈ rs, i < r.length) → ∀ ys : List V, ys.length = ss.length → (∀ (j : Nat) (s : Src), ss[j]? = some s → ∀ xs, SqE c.K H s xs → ∃ x, xs[i]? = some x ∧ ys[j]? = some x) → Rs c.K c.T G (rs.map fun r => r.getD i .non) ys := by
  induction h with
  | nil =>
    intro _ ys l _
    cases ys with
    | nil => exact rfl
    | cons _ _ => cases l
  | @cons s r ss rs vs a b t ih =>
    intro hl ys l hj
    cases ys with
    | nil => cases l
    | cons y ys =>
      have hi := hl r List.mem_cons_self
      obtain ⟨x, e1, e2⟩ := hj 0 s rfl vs (a.sub hGH)
      obtain rfl : y = x := by simpa using e2
      have ed : r[i]? = some r[i] := List.getElem?_eq_getElem hi
      obtain ⟨v, e3, rv⟩ := b.get ed
      rw [e1] at e3
      cases e3
      refine ⟨y, ys, rfl, ?_, ih (fun r' h' => hl r' (List.mem_cons_of_mem _ h')) ys (by simpa using l) fun j s' e xs hx => ?_⟩
      · have : r.getD i .non = r[i] := by rw [List.getD_eq_getElem?_getD, ed]; rfl
        show R c.K c.T G (r.getD i .non) y
        rw [this]; exact rv
      · obtain ⟨x, h1, h2⟩ := hj (j + 1) s' (by simpa using e) xs hx
        exact ⟨x, h1, by simpa using h2⟩
theorem walk_zipN {G : Hp} {ss : List Src} {rs : List (List D)} (h : RowsAt c G ss rs) (hne : ss ≠ []) : Walk c (Itzn c.K ss) G (zipD rs) := by
  have lz : (zipD rs).length = minL rs := by unfold zipD; rw [List.length_map, List.length_range]
  refine ⟨fun i F H h1 h2 hi s hs => ?_, fun i F H h1 h2 hi => ⟨fun s hs => ?_, ?_⟩, fun sf F0 B i d F H σ ρ e S hG x H' hy => ?_⟩
  · rw [lz] at hi
    obtain ⟨r, hr, vs, q1, q2⟩ := h.src s hs
    have hv : i < vs.length := by rw [← q2.length]; exact Nat.lt_of_lt_of_le hi (minL_le hr)
    exact ⟨vs, vs[i], q1.sub (h2.pre h1), List.getElem?_eq_getElem hv⟩
  · obtain ⟨r, hr, vs, q1, q2⟩ := h.src s hs
    exact ⟨vs, q1.sub (h2.pre h1)⟩
  · rw [lz] at hi
    have hne2 : rs ≠ [] := fun z => by
      subst z
      have := h.len
      exact hne (List.length_eq_zero_iff.mp this)
    obtain ⟨r, hr, lr⟩ := minL_ex hne2
    obtain ⟨s, hs, vs, q1, q2⟩ := h.row r hr
    exact ⟨s, hs, vs, q1.sub (h2.pre h1), by rw [← q2.length, lr]; exact hi⟩
  · obtain ⟨T, ys, rfl, hT, rfl, ly, hj⟩ := hy
    have hi : i < minL rs := by have := lt_of_get e; rwa [lz] at this
    obtain rfl : D.tup (rs.map fun r => r.getD i .non) = d := by
      unfold zipD at e
      rw [List.getElem?_map, List.getElem?_range hi] at e
      exact Option.some.inj e
    have rr := h.turn (S.gr.sub.pre hG) (fun r hr => Nat.lt_of_lt_of_le hi (minL_le hr)) ys ly hj
    obtain ⟨S2, e2⟩ := Stt.frozen (c := { K := c.K, T := c.T, F0 := F0, B := B, W := c.W, sf := sf }) S hT (.tup ys) (fun _ z => nomatch z)
    exact ⟨_, S2, e2, T, ys, rfl, .inl (.inl upd_same), rr.mono (hG.trans e2)⟩
theorem seqD_of {F : Hp} {d : D} {r : List D} {v : V} (e : seqD d = some r) (h : R c.K c.T F d v) : ∃ (a : Addr) (tu : Bool) (vs : List V), v = .ref a ∧ (∀ i, SqE c.K F ⟨i, a, tu⟩ vs) ∧ Rs c.K c.T F r vs := by
  cases d with
  | lst xs =>
    cases e
    obtain ⟨a, vs, rfl, s1, r2⟩ := h
    exact ⟨a, false, vs, rfl, fun i => by unfold SqE; exact s1, r2⟩
  | tup xs =>
    cases e
    obtain ⟨a, vs, rfl, s1, r2⟩ := h
    exact ⟨a, true, vs, rfl, fun i => by unfold SqE; exact s1, r2⟩
  | _ => cases e
theorem seqDs_of {F : Hp} : ∀ {ds : List D} {rows : List (List D)} {vs : List V}, seqDs ds = some rows → Rs c.K c.T F ds vs → ∃ cs : List (Addr × Bool), vs = cs.map (fun p => V.ref p.1) ∧ cs.length = ds.length ∧ (∀ p ∈ cs, ∃ xs, SqE c.K F ⟨0, p.1, p.2⟩ xs) ∧ ∀ ss : List Src, ss.map (fun d => (d.l, d.tu)) = cs → RowsAt c F ss rows
  | [], rows, vs, e, h => by
    cases e
    cases h
    exact ⟨[], rfl, rfl, fun p hp => (by cases hp), fun ss es => by
      have : ss = [] := List.map_eq_nil_iff.mp es
      subst this; exact .nil⟩
  | d :: ds, rows, vs, e, h => by
    unfold seqDs at e
    split at e
    · rename_i x xs e1 e2
      cases e
      obtain ⟨v, r, rfl, r1, r2⟩ := h
      obtain ⟨cs, rfl, ln, hq, hr⟩ := seqDs_of e2 r2
      obtain ⟨a, tu, ws, rfl, sq, rr⟩ := seqD_of e1 r1
      refine ⟨(a, tu) :: cs, rfl, by simp [ln], fun p hp => ?_, fun ss es => ?_⟩
      · rcases List.mem_cons.mp hp with z | z
        · subst z; exact ⟨ws, sq 0⟩
        · exact hq p z
      · cases ss with
        | nil => cases es
        | cons s ss =>
          simp only [List.map_cons, List.cons.injEq, Prod.mk.injEq] at es
          obtain ⟨⟨e3, e4⟩, e5⟩ := es
          obtain ⟨it, l, t⟩ := s
          dsimp only at e3 e4
          subst e3 e4
          exact .cons (sq it) rr (hr ss e5)
    · cases e
theorem li_z {n : Nat} {f : Str} {e : Expr} {es : List Expr} {p pos tpos : Pos} {elts : List Expr} {kk : Nat} {wa : WA} (hn : n = 2 ∨ n = 3 ∨ n = 4) (hf : f = "zip") (hK : X.K = c.K) (hg : Gl X f) (hm : X.mg f = none) (ha : PA X (e :: es) (liftA c wa))
    (hs : starEach (e :: es) X.env = (false, eval e X.env) :: starEach es X.env) (hpl : (backTo pos (starEach es X.env)).any (·.1) = false) : PI X (.Tuple elts kk tpos) (.Call (.Name f p) (e :: es) [] pos) (liftI c (wZipN n wa)) := by
  subst hf
  have main : ∀ σ H Q, liftI c (wZipN n wa) σ H Q → iZn X.K n (liftA c wa) σ H Q := by
    rintro σ H Q ⟨F, ρ, P, E, S, w, q, x⟩
    refine ⟨F, ρ, _, E, S, w, fun ds vs F1 H1 ⟨ln, w1⟩ S1 e1 r1 => ?_, x⟩
    obtain ⟨rows, er, w1⟩ := hasI_of w1
    obtain ⟨cs, rfl, l2, hq, hr⟩ := seqDs_of er r1
    refine ⟨cs, rfl, l2.trans ln, fun p hp => ?_, fun ss es => ?_⟩
    · obtain ⟨xs, sq⟩ := hq p hp
      exact ⟨xs, hK ▸ sq.sub S1.gr.sub⟩
    · have hne : ss ≠ [] := fun z => by subst z; subst es; simp at l2; omega
      rw [hK]
      exact q _ _ F1 H1 w1 S1 e1 (walk_zipN (hr ss es) hne)
  rcases hn with rfl | rfl | rfl
  · exact pi_weak (pi_z2 hg hm ha hs hpl) main
  · exact pi_weak (pi_z3 hg hm ha hs hpl) main
  · exact pi_weak (pi_z4 hg hm ha hs hpl) main
end
end Tr

namespace TL
open PySem PySem.Spec PyProof.Rows L2

/-! ### comprehensions of three clauses without tests -/
abbrev C3 (elt t0 i0 t1 i1 t2 i2 : Expr) (scope : Scope) (pos : Pos) : Expr := .ListComp elt [⟨t0, i0, [], 0⟩, ⟨t1, i1, [], 0⟩, ⟨t2, i2, [], 0⟩] scope pos
/-- the turn of a clause that is not the last one -/
def turnUp (e t ip inx : Expr) (d : Nat) (it acc : Value) (env : Env) : Sem Fin := do
  standAt ip.pos
  match ← pyNext it with
  | none => pure (.done .next)
  | some v => do
    letOwnedTupleGo t it v; assign t env v
    let x ← eval inx env
    standAt inx.pos
    let y ← foldedSetIterable inx env x
    let z ← holding [y] (pyIter y)
    let _ ← runOwn (.compStart e (d + 1) z acc env) env
    again (.compLoop e d it acc env)
/-- .. and of the last -/
def turnIn (e t ip elt : Expr) (d : Nat) (it acc : Value) (env : Env) : Sem Fin := do
  standAt ip.pos
  match ← pyNext it with
  | none => pure (.done .next)
  | some v => do
    letOwnedTupleGo t it v; assign t env v
    (do let _ ← call (.builtin "list.append") [acc, ← eval elt env])
    again (.compLoop e d it acc env)
section
variable {elt t0 i0 t1 i1 t2 i2 : Expr} {scope : Scope} {pos : Pos} {it acc : Value} {env : Env}
theorem turn0 : compTurn (C3 elt t0 i0 t1 i1 t2 i2 scope pos) 0 it acc env = turnUp (C3 elt t0 i0 t1 i1 t2 i2 scope pos) t0 i0 i1 0 it acc env := by rfl
theorem turn1 : compTurn (C3 elt t0 i0 t1 i1 t2 i2 scope pos) 1 it acc env = turnUp (C3 elt t0 i0 t1 i1 t2 i2 scope pos) t1 i1 i2 1 it acc env := by rfl
theorem turn2 : compTurn (C3 elt t0 i0 t1 i1 t2 i2 scope pos) 2 it acc env = turnIn (C3 elt t0 i0 t1 i1 t2 i2 scope pos) t2 i2 elt 2 it acc env := by rfl
end
section
variable {prog : Program} {w : World} {A : Around} {R : Result → Shared → Prop} {s : Shared} {e t ip inx elt : Expr} {d : Nat} {it acc : Value} {env : Env}
abbrev NB (prog : Program) (w : World) (A : Around) (env : Env) (R : Result → Shared → Prop) : Value → Shared → Prop := notedBy (model prog w) A env fun e s' => R (.error e) s'
theorem up_loop (hU : A.under (.compLoop e d it acc env) = A) (hD : (model prog w).den (.compLoop e d it acc env) = ((compTurn e d it acc env).onRaise fun x => do noteFrame x env; theTreesLotGoes x)) (hT : compTurn e d it acc env = turnUp e t ip inx d it acc env) (hs : ∀ x, foldedSetIterable inx env x = pure x) (I : Nat → Shared → Prop)
    (turn : ∀ n s, I n s → wpAny (model prog w) A (pyNext it) (fun r s1 => match r with
      | none => R (.ok .next) s1
      | some v => wpAny (model prog w) A (letOwnedTupleGo t it v) (fun _ s2 => wpAny (model prog w) A (assign t env v) (fun _ s3 =>
          wpAny (model prog w) A (eval inx env) (fun x s4 => wpAny (model prog w) A (pyIter x) (fun z s5 =>
            codeAny (model prog w) A (.compStart e (d + 1) z acc env) (fun r s' => match r with | .ok _ => ∃ m, m < n ∧ I m s' | .error _ => False) s5) (NB prog w A env R) s4) (NB prog w A env R) s3) (NB prog w A env R) s2) (NB prog w A env R) s1) (NB prog w A env R) s)
    (n : Nat) (h : I n s) : codeAny (model prog w) A (.compLoop e d it acc env) R s := by
  refine codeAny_loop rfl I (fun n s hI => ?_) n h
  rw [hU, hD]
  refine wpAny_noted ?_
  rw [hT]
  unfold turnUp
  refine wpAny_bind (wpAny_standAt (wpAny_bind (wpAny_mono (turn n s hI) (fun r s1 h1 => ?_) fun _ _ q => q)))
  cases r with
  | none => exact wpAny_pure h1
  | some v =>
    refine wpAny_bind (wpAny_mono h1 (fun _ s2 h2 => wpAny_bind (wpAny_mono h2 (fun _ s3 h3 => wpAny_bind (wpAny_mono h3 (fun x s4 h4 => ?_) fun _ _ q => q)) fun _ _ q => q)) fun _ _ q => q)
    refine wpAny_bind (wpAny_standAt (wpAny_bind (wpAny_of_eq (hs x) (wpAny_bind (wpAny_holding (wpAny_mono h4 (fun z s5 h5 => ?_) fun _ _ q => q))))))
    refine wpAny_bind (wpAny_runOwn ?_)
    rw [Around.mark_none]
    refine codeAny_mono h5 fun r s' hr => ?_
    cases r with
    | ok f => first | exact wpAny_pure ⟨rfl, hr⟩ | exact wpAny_bind (wpAny_pure (wpAny_pure ⟨rfl, hr⟩))
    | error e => exact hr.elim
theorem in_loop (hU : A.under (.compLoop e d it acc env) = A) (hD : (model prog w).den (.compLoop e d it acc env) = ((compTurn e d it acc env).onRaise fun x => do noteFrame x env; theTreesLotGoes x)) (hT : compTurn e d it acc env = turnIn e t ip elt d it acc env) (I : Nat → Shared → Prop)
    (turn : ∀ n s, I n s → wpAny (model prog w) A (pyNext it) (fun r s1 => match r with
      | none => R (.ok .next) s1
      | some v => wpAny (model prog w) A (letOwnedTupleGo t it v) (fun _ s2 => wpAny (model prog w) A (assign t env v) (fun _ s3 =>
          wpAny (model prog w) A (eval elt env) (fun y s4 => wpAny (model prog w) A (call (.builtin "list.append") [acc, y]) (fun _ s5 => ∃ m, m < n ∧ I m s5) (NB prog w A env R) s4) (NB prog w A env R) s3) (NB prog w A env R) s2) (NB prog w A env R) s1) (NB prog w A env R) s)
    (n : Nat) (h : I n s) : codeAny (model prog w) A (.compLoop e d it acc env) R s := by
  refine codeAny_loop rfl I (fun n s hI => ?_) n h
  rw [hU, hD]
  refine wpAny_noted ?_
  rw [hT]
  unfold turnIn
  refine wpAny_bind (wpAny_standAt (wpAny_bind (wpAny_mono (turn n s hI) (fun r s1 h1 => ?_) fun _ _ q => q)))
  cases r with
  | none => exact wpAny_pure h1
  | some v =>
    refine wpAny_bind (wpAny_mono h1 (fun _ s2 h2 => wpAny_bind (wpAny_mono h2 (fun _ s3 h3 => wpAny_bind (wpAny_bind (wpAny_mono h3 (fun y s4 h4 => wpAny_bind (wpAny_mono h4 (fun _ s5 h5 => wpAny_pure (wpAny_pure ⟨rfl, h5⟩)) fun _ _ q => q)) fun _ _ q => q))) fun _ _ q => q)) fun _ _ q => q)
end
section
variable {prog : Program} {w : World} {A : Around} {R : Result → Shared → Prop} {s : Shared} {elt t0 i0 t1 i1 t2 i2 : Expr} {scope : Scope} {pos : Pos} {it acc : Value} {env : Env}
theorem start_1 (h0 : codeAny (model prog w) A (.compLoop (C3 elt t0 i0 t1 i1 t2 i2 scope pos) 1 it acc env) R s) (h : wpAny (model prog w) A (pyIter it) (fun z s' => codeAny (model prog w) A (.compLoop (C3 elt t0 i0 t1 i1 t2 i2 scope pos) 1 z acc env) R s') (NB prog w A env R) s) :
    codeAny (model prog w) A (.compStart (C3 elt t0 i0 t1 i1 t2 i2 scope pos) 1 it acc env) R s := by
  refine codeAny_of_tree ?_
  show wpAny _ _ ((compStart (C3 elt t0 i0 t1 i1 t2 i2 scope pos) 1 it acc env).onRaise (fun x => do noteFrame x env; standAt theWindowsPlace)) _ _ s
  refine wpAny_notedAt ?_
  unfold compStart
  show wpAny _ _ (ask >>= _) _ _ s
  refine wpAny_bind (wpAny_askSetting (wpAny_ite ?_))
  split
  · first | exact wpAny_bind (wpAny_pure (wpAny_pure (And.intro rfl h0))) | exact wpAny_pure (And.intro rfl h0)
  · refine wpAny_bind (wpAny_rule ?_)
    show wpAny _ _ (standAt i1.pos >>= _) _ _ s
    exact wpAny_bind (wpAny_standAt (wpAny_bind (wpAny_mono h (fun z s' q => wpAny_pure (And.intro rfl q)) fun _ _ x => x)))
theorem start_2 (h0 : codeAny (model prog w) A (.compLoop (C3 elt t0 i0 t1 i1 t2 i2 scope pos) 2 it acc env) R s) (h : wpAny (model prog w) A (pyIter it) (fun z s' => codeAny (model prog w) A (.compLoop (C3 elt t0 i0 t1 i1 t2 i2 scope pos) 2 z acc env) R s') (NB prog w A env R) s) :
    codeAny (model prog w) A (.compStart (C3 elt t0 i0 t1 i1 t2 i2 scope pos) 2 it acc env) R s := by
  refine codeAny_of_tree ?_
  show wpAny _ _ ((compStart (C3 elt t0 i0 t1 i1 t2 i2 scope pos) 2 it acc env).onRaise (fun x => do noteFrame x env; standAt theWindowsPlace)) _ _ s
  refine wpAny_notedAt ?_
  unfold compStart
  show wpAny _ _ (ask >>= _) _ _ s
  refine wpAny_bind (wpAny_askSetting (wpAny_ite ?_))
  split
  · first | exact wpAny_bind (wpAny_pure (wpAny_pure (And.intro rfl h0))) | exact wpAny_pure (And.intro rfl h0)
  · refine wpAny_bind (wpAny_rule ?_)
    show wpAny _ _ (standAt i2.pos >>= _) _ _ s
    exact wpAny_bind (wpAny_standAt (wpAny_bind (wpAny_mono h (fun z s' q => wpAny_pure (And.intro rfl q)) fun _ _ x => x)))
end
end TL

namespace TL
open PySem PySem.Spec PyProof.Rows L2

/-- a loop's wish: each turn's store, then `body`, from which the next turn or the end is reached -/
def tNest (J : It) (g : TG) (vs1 : List Nat) (body : (Hp → Prop) → L2.St → Hp → Prop) (Nx : Hp → Prop) (σ : L2.St) (H : Hp) : Prop :=
  ∃ W : Nat → Nat → Hp → Prop, (∃ m, W 0 m H) ∧ ∀ j k H, W j k H → (J.stop j H ∧ Nx H) ∨ (J.go j H ∧ ∃ Nx1 : Hp → Prop, (∀ H', Nx1 H' → ∃ k', k' < k ∧ W (j + 1) k' H') ∧ ∀ x H', J.yld j H x H' → g x (wipe σ vs1) H' fun σ3 H5 => wipe σ3 vs1 = wipe σ vs1 ∧ body Nx1 σ3 H5)
/-- the element goes to the list at D -/
def bElt (te : TE) (D : Addr) (Nx : Hp → Prop) (σ : L2.St) (H : Hp) : Prop := te σ H fun y H7 => ∃ acc, H7 D = some (.lst acc) ∧ acc.length < sizeLine ∧ Nx (upd H7 D (.lst (acc ++ [y])))
/-- a further clause -/
def bFor (wi : TI) (g : TG) (vs1 : List Nat) (body : (Hp → Prop) → L2.St → Hp → Prop) (Nx : Hp → Prop) (σ : L2.St) (H : Hp) : Prop := wi σ H fun J H4 => tNest J g vs1 body Nx σ H4
section
variable {Y : Cx}
theorem thnX (hx : ∀ e s, ¬ Y.xe e s) {α : Type} {t : Sem α} {Q Q' : α → Shared → Prop} {M : Model} {A : Around} {E' : Value → Shared → Prop} {s : Shared} (h : wpAny M A t Q Y.xe s) (hQ : ∀ a s, Q a s → Q' a s) : wpAny M A t Q' E' s := wpAny_mono h hQ fun e s q => (hx e s q).elim
/-- what stands between two turns -/
abbrev Mid (Y : Cx) (pins : List (Addr × Obj)) (σ : L2.St) (fp : List Addr) (tn : Nat → Heap → Prop) (W : Nat → Nat → Hp → Prop) (k : Nat) (s' : Shared) : Prop := ∃ j H', Inv Y pins σ H' s' ∧ tn j s'.heap ∧ (∀ b ∈ fp, H' b = none) ∧ W j k H'
theorem back {pins : List (Addr × Obj)} {σ σ3 : L2.St} {vs1 : List Nat} {fp : List Addr} {tn : Nat → Heap → Prop} {W : Nat → Nat → Hp → Prop} {tg : Expr} {J : It} {it : Addr} {j k : Nat} {s4 s' : Shared} {H' : Hp} {Nx1 : Hp → Prop} (T : Turn Y.prog Y.w Y.K tg J fp it tn) (st : tn (j + 1) s4.heap) (hw : wipe σ3 vs1 = wipe σ vs1)
    (hn : ∀ H', Nx1 H' → ∃ k', k' < k ∧ W (j + 1) k' H') (I : Inv Y (pins ++ pinsAt fp s4.heap) σ3 H' s') (nx : Nx1 H') : ∃ m, m < k ∧ Mid Y pins (wipe σ vs1) fp tn W m s' := by
  obtain ⟨m, hm, w⟩ := hn H' nx
  have pin : ∀ b ∈ fp, ∀ o, s4.heap.get? b = some o → s'.heap.get? b = some o ∧ H' b = none := fun b hb o e =>
    let z := I.pin (b, o) (List.mem_append_right _ (List.mem_append_right _ (mem_pinsAt hb e)))
    ⟨z.1, z.2.1⟩
  have wk : Inv Y pins (wipe σ vs1) H' s' := I.unpinned.weak (by rw [← hw, wipe_length]) fun j v e => by rw [← hw] at e; exact (wipe_some e).1
  refine ⟨m, hm, j + 1, H', wk, T.keep _ _ _ st fun b hb o e => (pin b hb o e).1, fun b hb => ?_, w⟩
  obtain ⟨o, e, _⟩ := T.obj _ _ st b hb
  exact (pin b hb o e).2
/-- one clause's loop: `go` is what the loop lemma wants of a turn behind the store -/
theorem nest {e tg : Expr} {d : Nat} {pins : List (Addr × Obj)} {σ : L2.St} {H1 : Hp} {s1 : Shared} {it : Addr} {acc : Value} {g : TG} {vs1 : List Nat} {body : (Hp → Prop) → L2.St → Hp → Prop} {Nx : Hp → Prop} {J : It} {fp : List Addr} {tn : Nat → Heap → Prop} {R : Result → Shared → Prop} {rest : Nat → (Shared → Prop) → Shared → Prop}
    (hx : ∀ e s, ¬ Y.xe e s) (hc : Y.calm = true) (pg : PG Y tg g) (I1 : Inv Y pins σ H1 s1) (T : Turn Y.prog Y.w Y.K tg J fp it tn) (st1 : tn 0 s1.heap) (f1 : ∀ b ∈ fp, FpOk Y pins H1 b) (q : tNest J g vs1 body Nx σ H1)
    (hR : ∀ s' H', Inv Y pins (wipe σ vs1) H' s' → Nx H' → R (.ok .next) s')
    (loop : ∀ I : Nat → Shared → Prop, (∀ n s, I n s → wpAny (model Y.prog Y.w) Y.A (pyNext (.ref it)) (fun r s1 => match r with
        | none => R (.ok .next) s1
        | some v => wpAny (model Y.prog Y.w) Y.A (letOwnedTupleGo tg (.ref it) v) (fun _ s2 => wpAny (model Y.prog Y.w) Y.A (assign tg Y.env v) (fun _ s3 => rest n (fun s' => ∃ m, m < n ∧ I m s') s3) (NB Y.prog Y.w Y.A Y.env R) s2) (NB Y.prog Y.w Y.A Y.env R) s1) (NB Y.prog Y.w Y.A Y.env R) s) →
      ∀ n, I n s1 → codeAny (model Y.prog Y.w) Y.A (.compLoop e d (.ref it) acc Y.env) R s1)
    (hb : ∀ (n : Nat) (pins' : List (Addr × Obj)) (σ3 : L2.St) (H5 : Hp) (s5 : Shared) (Nx1 : Hp → Prop) (Z : Shared → Prop), wipe σ3 vs1 = wipe σ vs1 → Inv Y pins' σ3 H5 s5 → body Nx1 σ3 H5 → (∀ σ4 H' s', wipe σ4 vs1 = wipe σ vs1 → Inv Y pins' σ4 H' s' → Nx1 H' → Z s') → rest n Z s5) :
    codeAny (model Y.prog Y.w) Y.A (.compLoop e d (.ref it) acc Y.env) R s1 := by
  obtain ⟨W, ⟨m0, w0⟩, turn⟩ := q
  have stat : ∀ {H' : Hp}, (∀ b ∈ fp, H' b = none) → ∀ b ∈ fp, FpOk Y pins H' b := fun hn b hb => ⟨hn b hb, (f1 b hb).2⟩
  refine loop (Mid Y pins (wipe σ vs1) fp tn W) ?_ m0 ⟨0, H1, I1.weak (wipe_length _ _) fun j v e => (wipe_some e).1, st1, fun b hb => (f1 b hb).1, w0⟩
  rintro n s2 ⟨j, H2, I2, st2, n2, w2⟩
  rcases turn j n H2 w2 with ⟨stop, nx⟩ | ⟨go, Nx1, hn, step⟩
  · refine thnF (T.done Y rfl rfl rfl hc j _ s2 _ H2 (fun _ _ => False) I2 (stat n2) st2 stop) fun r s3 ⟨hr, I3⟩ => ?_
    subst hr
    exact hR s3 H2 I3 nx
  · refine thnF (T.item Y rfl rfl rfl hc j _ s2 _ H2 (fun _ _ => False) I2 (stat n2) st2 go) fun r s3 ⟨u, hr, h3⟩ => ?_
    subst hr
    refine thnF h3 fun _ s4 ⟨x, H4, I4, r4, y4, st4, n4⟩ => ?_
    have I4' := I4.pinned (stat n4) (T.obj _ _ st4)
    refine thnX hx (pg.run _ s4 _ H4 x u _ I4' r4 (step x H4 y4)) fun _ s5 ⟨σ5, H5, I5, hw5, q5⟩ => ?_
    exact hb n _ σ5 H5 s5 Nx1 _ hw5 I5 q5 fun σ6 H' s' hw6 I6 nx => back T st4 hw6 hn I6 nx
end
end TL

namespace TL
open PySem PySem.Spec PyProof.Rows L2
open Tr (wipe_all)

/-- three clauses; vs: the block's names, vs1: those of the second and third target, vs2: of the third -/
def tLc3 (wi : TI) (g : TG) (wi1 : TI) (g1 : TG) (wi2 : TI) (g2 : TG) (te : TE) (vs vs1 vs2 : List Nat) : TE := fun σ H Q => wi σ H fun J H1 => ∀ D, H1 D = none → tNest J g vs (bFor wi1 g1 vs1 (bFor wi2 g2 vs2 (bElt te D))) (fun H' => Q (.ref D) H') σ (upd H1 D (.lst []))
theorem wipe_get (σ : L2.St) (i : Nat) : ∀ vs : List Nat, (wipe σ vs)[i]? = if i ∈ vs ∧ i < σ.length then some none else σ[i]?
  | [] => by show σ[i]? = _; simp
  | v :: vs => by
    show ((wipe σ vs).set v none)[i]? = _
    rw [List.getElem?_set, wipe_length, wipe_get σ i vs]
    by_cases h1 : v = i
    · subst h1
      by_cases h2 : v < σ.length
      · simp [h2]
      · simp [h2]
    · have h1' : ¬ i = v := fun z => h1 z.symm
      simp [h1, h1']
theorem wipe_big {σ : L2.St} {us vs : List Nat} (h : ∀ i ∈ us, i ∈ vs) : wipe (wipe σ us) vs = wipe σ vs := by
  refine List.ext_getElem? fun i => ?_
  rw [wipe_get, wipe_get, wipe_get, wipe_length]
  by_cases h1 : i ∈ vs ∧ i < σ.length
  · rw [if_pos h1, if_pos h1]
  · rw [if_neg h1, if_neg h1, if_neg fun z => h1 ⟨h i z.1, z.2⟩]
abbrev upRest (prog : Program) (w : World) (A : Around) (e inx : Expr) (d1 : Nat) (acc : Value) (env : Env) (R : Result → Shared → Prop) (Z : Shared → Prop) (s3 : Shared) : Prop :=
  wpAny (model prog w) A (eval inx env) (fun x s4 => wpAny (model prog w) A (pyIter x) (fun z s5 => codeAny (model prog w) A (.compStart e d1 z acc env) (fun r s' => match r with | .ok _ => Z s' | .error _ => False) s5) (NB prog w A env R) s4) (NB prog w A env R) s3
abbrev inRest (prog : Program) (w : World) (A : Around) (elt : Expr) (acc : Value) (env : Env) (R : Result → Shared → Prop) (Z : Shared → Prop) (s3 : Shared) : Prop :=
  wpAny (model prog w) A (eval elt env) (fun y s4 => wpAny (model prog w) A (call (.builtin "list.append") [acc, y]) (fun _ s5 => Z s5) (NB prog w A env R) s4) (NB prog w A env R) s3
section
variable {X : Cx} {elt t0 i0 t1 i1 t2 i2 : Expr} {scope : Scope} {own : List (Str × Nat)} {vs1 vs2 : List Nat} {pos : Pos} {wi wi1 wi2 : TI} {g g1 g2 : TG} {te : TE}
theorem pe_lc3 (hc : X.calm = true) (hN : X.N.Nodup) (hi : PI X t0 i0 wi) (ok : BlkOk X.N X.env.scope scope own) (v1 : ∀ i ∈ vs1, i ∈ own.map (·.2)) (v2 : ∀ i ∈ vs2, i ∈ vs1)
    (hg : ∀ (s : Shared) (H : Hp) (C : Addr) (cl : List (Str × Addr)) (fp : List Addr), PG (X.blk s H scope (compEnvC scope cl C X.env) fp) t0 g)
    (hi1 : ∀ (s : Shared) (H : Hp) (C : Addr) (cl : List (Str × Addr)) (fp : List Addr), PI (X.blk s H scope (compEnvC scope cl C X.env) fp) t1 i1 wi1) (hg1 : ∀ (s : Shared) (H : Hp) (C : Addr) (cl : List (Str × Addr)) (fp : List Addr), PG (X.blk s H scope (compEnvC scope cl C X.env) fp) t1 g1)
    (hi2 : ∀ (s : Shared) (H : Hp) (C : Addr) (cl : List (Str × Addr)) (fp : List Addr), PI (X.blk s H scope (compEnvC scope cl C X.env) fp) t2 i2 wi2) (hg2 : ∀ (s : Shared) (H : Hp) (C : Addr) (cl : List (Str × Addr)) (fp : List Addr), PG (X.blk s H scope (compEnvC scope cl C X.env) fp) t2 g2)
    (he : ∀ (s : Shared) (H : Hp) (C : Addr) (cl : List (Str × Addr)) (fp : List Addr), PE (X.blk s H scope (compEnvC scope cl C X.env) fp) elt te) (hs0 : ∀ x, foldedSetIterable i0 X.env x = pure x) (hs1 : ∀ env x, foldedSetIterable i1 env x = pure x) (hs2 : ∀ env x, foldedSetIterable i2 env x = pure x) :
    PE X (C3 elt t0 i0 t1 i1 t2 i2 scope pos) (tLc3 wi g wi1 g1 wi2 g2 te (own.map (·.2)) vs1 vs2) := by
  refine ⟨fun pins s σ H Q I h => ?_⟩
  rw [eval_ListComp]
  have hfree : ∀ y ∈ scope.names, y.2 = .free → ∃ c, X.env.cells.lookup y.1 = some c := fun y hy e => (ok.free y hy e).elim (fun k => I.ok.has _ (.inl k)) fun k => I.ok.has _ (.inr k)
  refine wpAny_comprehension_free rfl hs0 (closure_ok hfree) ok.kind (fun y hy e => by rw [ok.uniq y hy, e]) (thn (hi.run pins s σ H _ I h) fun xv s1 hx => thn hx fun itv s2 hpi => ?_)
  obtain ⟨it, fp, tn, J, H2, e, I2, T, st2, f2, q⟩ := hpi
  subst e
  refine wpAny_newObj_type (newEnv_comp ?_) (by show 0 ≤ sizeLine; decide)
  obtain ⟨D, hD⟩ : ∃ D, D = s2.heap.objs.size := ⟨_, rfl⟩
  rw [← hD]
  have qD := q D (I2.hok.fresh (Nat.le_of_eq hD.symm))
  obtain ⟨s3, e3⟩ : ∃ s3 : Shared, s3 = { s2 with heap := s2.heap.push { cls := .type "list", data := .seq ([] : List Value).toArray } } := ⟨_, rfl⟩
  rw [← e3]
  have h3 : s3.heap = s2.heap.push { cls := .type "list", data := .seq ([] : List Value).toArray } := by rw [e3]
  have I3 : Inv X pins σ (upd H2 D (.lst [])) s3 := by
    rw [e3]
    refine I2.laid (t' := s2.toks) (fun b o e => Heap.get?_push_of_some _ e) (Nat.le_of_eq hD.symm) ⟨Nat.zero_le _, [], 0, .nil, ?_⟩
    rw [hD]
    exact Heap.get?_push_size _ rfl
  have f3 : ∀ b ∈ fp, FpOk X pins (upd H2 D (.lst [])) b ∧ b < s3.heap.objs.size := fun b hb => by
    obtain ⟨o, eo, _⟩ := T.obj _ _ st2 b hb
    have lt := Heap.lt_size eo
    refine ⟨⟨?_, (f2 b hb).2⟩, by rw [h3, Heap.size_push]; exact Nat.lt_succ_of_lt lt⟩
    rw [upd_ne (by rw [hD]; exact Nat.ne_of_lt lt)]
    exact (f2 b hb).1
  have st3 : tn 0 s3.heap := T.keep _ _ _ st2 fun b _ o eo => by rw [h3]; exact Heap.get?_push_of_some _ eo
  have I4 := block_start I3 ok hN f3
  obtain ⟨H3, eH⟩ : ∃ H3, H3 = upd H2 D (.lst []) := ⟨_, rfl⟩
  rw [← eH] at qD I3 f3 I4
  obtain ⟨cl, ecl⟩ : ∃ cl, cl = cellsFrom (s3.heap.objs.size + 1) scope.names (cloFrom X.env.cells scope.names []) := ⟨_, rfl⟩
  rw [← ecl] at I4
  have pg := hg s3 H3 s3.heap.objs.size cl fp
  have pi1 := hi1 s3 H3 s3.heap.objs.size cl fp
  have pg1 := hg1 s3 H3 s3.heap.objs.size cl fp
  have pi2 := hi2 s3 H3 s3.heap.objs.size cl fp
  have pg2 := hg2 s3 H3 s3.heap.objs.size cl fp
  have pe := he s3 H3 s3.heap.objs.size cl fp
  show codeAny _ _ (.compStart (C3 elt t0 i0 t1 i1 t2 i2 scope pos) 0 (.ref it) (.ref D) (compEnvC scope (cellsFrom (s3.heap.objs.size + 1) scope.names (cloFrom X.env.cells scope.names [])) s3.heap.objs.size X.env)) _ { s3 with heap := pushCells (s3.heap.push { cls := .type "dict", data := .dict #[] }) scope.names }
  rw [← ecl]
  obtain ⟨ce, ece⟩ : ∃ ce, ce = compEnvC scope cl s3.heap.objs.size X.env := ⟨_, rfl⟩
  have cL : ce.locals = s3.heap.objs.size := by rw [ece]; rfl
  rw [← ece] at I4 pg pi1 pg1 pi2 pg2 pe ⊢
  obtain ⟨s4, e4⟩ : ∃ s4 : Shared, s4 = { s3 with heap := pushCells (s3.heap.push { cls := .type "dict", data := .dict #[] }) scope.names } := ⟨_, rfl⟩
  rw [← e4] at I4 ⊢
  have st4 : tn 0 s4.heap := T.keep _ _ _ st3 fun b _ o eo => by rw [e4]; exact pushCells_keeps _ _ _ _ (Heap.get?_push_of_some _ eo)
  have hxB : ∀ e s, ¬ (X.blk s3 H3 scope ce fp).xe e s := fun _ _ z => z
  have f4 : ∀ b ∈ fp, FpOk (X.blk s3 H3 scope ce fp) [] H3 b := fun b hb =>
    ⟨(f3 b hb).1.1, (I4.ok.exf b hb).1, I4.ok.exfs b hb, .inl hb, fun x c eo => (I4.ok.exf b hb).2 x c eo, fun p hp => absurd (show p ∈ ([] : List (Addr × Obj)) ++ [] from hp) (by simp)⟩
  have qW : tNest J g (own.map (·.2)) (bFor wi1 g1 vs1 (bFor wi2 g2 vs2 (bElt te D))) (fun H' => Q (.ref D) H') (wipe σ (own.map (·.2))) H3 := by
    obtain ⟨W, w0, turn⟩ := qD
    refine ⟨W, w0, fun j k H' w => ?_⟩
    rw [wipe_all fun _ z => z]
    exact turn j k H' w
  -- the end, seen from the def
  have out : ∀ s' H', Inv (X.blk s3 H3 scope ce fp) [] (wipe (wipe σ (own.map (·.2))) (own.map (·.2))) H' s' → Q (.ref D) H' → compPost (model X.prog X.w) X.A X.xe none (EP X pins σ Q) (.ref D) s3.heap.objs.size (.ok .next) s' := fun s' H' I6 qq => by
    have I7 : Inv X pins σ H' s' := I3.call' (ch := fp) I6.os I6.base I6.hok I6.bare fun b hb => ⟨(f3 b hb).1.2.2.2.1, (f3 b hb).1.2.1, (f3 b hb).1.2.2.2.2.1, (f3 b hb).1.2.2.2.2.2⟩
    have nC : H' s3.heap.objs.size = none := by
      have z : H' ce.locals = none := I6.free
      rwa [cL] at z
    obtain ⟨m, hn, _⟩ := I6.loc
    have hn : s'.heap.Ns ce.locals m := hn
    rw [cL] at hn
    refine ⟨m, hn, fun h'' sb => ?_⟩
    obtain ⟨z0, z1, z2, z3, z4, z5⟩ := I3.fpOk (H' := H') (Nat.le_refl _) nC
    exact ⟨.ref D, H', I7.turned (t' := s'.toks) (fun b o hb eo => (sb.2 b hb).trans eo) z0 z1 z3 z4 z5, rfl, qq⟩
  have main : codeAny (model X.prog X.w) X.A (.compLoop (C3 elt t0 i0 t1 i1 t2 i2 scope pos) 0 (.ref it) (.ref D) ce) (compPost (model X.prog X.w) X.A X.xe none (EP X pins σ Q) (.ref D) s3.heap.objs.size) s4 := by
    refine nest (Y := X.blk s3 H3 scope ce fp) (pins := []) (σ := wipe σ (own.map (·.2))) (rest := fun n Z s3 => upRest X.prog X.w X.A (C3 elt t0 i0 t1 i1 t2 i2 scope pos) i1 1 (.ref D) ce _ Z s3) hxB hc pg I4 T st4 f4 qW out (fun I turn n hn => up_loop rfl rfl turn0 (hs1 ce) I turn n hn) ?_
    -- the second clause
    intro n pins1 σ3 H5 s5 Nx1 Z hw1 I5 q5 hZ
    refine thnX hxB (pi1.run pins1 s5 σ3 H5 _ I5 q5) fun xv s6 hx6 => thnX hxB hx6 fun itv s7 h7 => ?_
    obtain ⟨it1, fp1, tn1, J1, H7, e7, I7, T1, st7, f7, q7⟩ := h7
    subst e7
    have loop1 : codeAny (model X.prog X.w) X.A (.compLoop (C3 elt t0 i0 t1 i1 t2 i2 scope pos) 1 (.ref it1) (.ref D) ce) (fun r s' => match r with | .ok _ => Z s' | .error _ => False) s7 := by
      refine nest (Y := X.blk s3 H3 scope ce fp) (rest := fun n Z s3 => upRest X.prog X.w X.A (C3 elt t0 i0 t1 i1 t2 i2 scope pos) i2 2 (.ref D) ce _ Z s3) hxB hc pg1 I7 T1 st7 f7 q7 (fun s' H' I' nx => hZ (wipe σ3 vs1) H' s' ((wipe_big v1).trans hw1) I' nx) (fun I turn n hn => up_loop rfl rfl turn1 (hs2 ce) I turn n hn) ?_
      -- the third
      intro n2 pins2 σ4 H8 s8 Nx2 Z2 hw2 I8 q8 hZ2
      refine thnX hxB (pi2.run pins2 s8 σ4 H8 _ I8 q8) fun xv2 s9 hx9 => thnX hxB hx9 fun itv2 s10 h10 => ?_
      obtain ⟨it2, fp2, tn2, J2, H10, e10, I10, T2, st10, f10, q10⟩ := h10
      subst e10
      have loop2 : codeAny (model X.prog X.w) X.A (.compLoop (C3 elt t0 i0 t1 i1 t2 i2 scope pos) 2 (.ref it2) (.ref D) ce) (fun r s' => match r with | .ok _ => Z2 s' | .error _ => False) s10 := by
        refine nest (Y := X.blk s3 H3 scope ce fp) (rest := fun n Z s3 => inRest X.prog X.w X.A elt (.ref D) ce _ Z s3) hxB hc pg2 I10 T2 st10 f10 q10 (fun s' H' I' nx => hZ2 (wipe σ4 vs2) H' s' ((wipe_big v2).trans hw2) I' nx) (fun I turn n hn => in_loop rfl rfl turn2 I turn n hn) ?_
        intro n3 pins3 σ5 H11 s11 Nx3 Z3 hw3 I11 q11 hZ3
        refine thnX hxB (pe.run _ s11 σ5 H11 _ I11 q11) fun yv s12 ⟨y, H12, I12, r12, acc, hD12, hz12, nx⟩ => ?_
        exact app_ok (X := X.blk s3 H3 scope ce fp) I12 hD12 hz12 r12 fun s13 I13 => hZ3 σ5 _ s13 hw3 I13 nx
      exact start_2 loop2 (T2.self X.A 0 _ _ _ st10 loop2)
    exact start_1 loop1 (T1.self X.A 0 _ _ _ st7 loop1)
  exact codeAny_compStart_list main (T.self X.A 0 _ _ _ st4 main)
end
end TL

namespace Tr
open PySem PySem.Spec PyProof.Rows L2 TL

/-! ### comprehensions of three clauses upon trees -/
abbrev TB := List Slot → List D → (List D → Prop) → Prop
def nestL (g : WG) (ρ : List Slot) (body : TB) : List D → List D → (List D → Prop) → Prop
  | [], acc, P => P acc
  | d :: r, acc, P => g d ρ fun ρ2 => body ρ2 acc fun acc2 => nestL g ρ body r acc2 P
def eltL (e : WE) : TB := fun ρ acc P => e ρ (fun y => acc.length < sizeLine ∧ P (acc ++ [y])) (fun _ => False)
def forB (wi : WI) (g : WG) (vs1 : List Nat) (body : TB) : TB := fun ρ acc P => wi ρ (fun items => nestL g (wipeR ρ vs1) body items acc P) (fun _ => False)
def wLc3 (vs vs1 vs2 : List Nat) (wi : WI) (g : WG) (wi1 : WI) (g1 : WG) (wi2 : WI) (g2 : WG) (e : WE) : WE := fun ρ P E => noOwn ρ vs = true ∧ wi ρ (fun items => nestL g (wipeR ρ vs) (forB wi1 g1 vs1 (forB wi2 g2 vs2 (eltL e))) items [] fun acc => P (.lst acc)) E
theorem wipeR_get (ρ : List Slot) (i : Nat) : ∀ vs : List Nat, (wipeR ρ vs)[i]? = if i ∈ vs ∧ i < ρ.length then some .emp else ρ[i]?
  | [] => by show ρ[i]? = _; simp
  | v :: vs => by
    have ln : ∀ us : List Nat, (wipeR ρ us).length = ρ.length := fun us => by
      induction us with
      | nil => rfl
      | cons a r ih => show ((wipeR ρ r).set a .emp).length = _; rw [List.length_set]; exact ih
    show ((wipeR ρ vs).set v .emp)[i]? = _
    rw [List.getElem?_set, ln, wipeR_get ρ i vs]
    by_cases h1 : v = i
    · subst h1
      by_cases h2 : v < ρ.length
      · simp [h2]
      · simp [h2]
    · have h1' : ¬ i = v := fun z => h1 z.symm
      simp [h1, h1']
theorem wipeR_big {ρ : List Slot} {us vs : List Nat} (h : ∀ i ∈ us, i ∈ vs) : wipeR (wipeR ρ us) vs = wipeR ρ vs := by
  have ln : (wipeR ρ us).length = ρ.length := by
    clear h
    induction us with
    | nil => rfl
    | cons a r ih => show ((wipeR ρ r).set a .emp).length = _; rw [List.length_set]; exact ih
  refine List.ext_getElem? fun i => ?_
  rw [wipeR_get, wipeR_get, wipeR_get, ln]
  by_cases h1 : i ∈ vs ∧ i < ρ.length
  · rw [if_pos h1, if_pos h1]
  · rw [if_neg h1, if_neg h1, if_neg fun z => h1 ⟨h i z.1, z.2⟩]
def anyI (c : Ct) (w : WI) : TI := fun σ H Rr => ∃ B, liftI (c.at B) w σ H Rr
theorem any_i {X : Cx} {tg iter : Expr} {c : Ct} {w : WI} (h : ∀ B, PI X tg iter (liftI (c.at B) w)) : PI X tg iter (anyI c w) := ⟨fun pins s σ H Q I ⟨B, q⟩ => (h B).run pins s σ H Q I q⟩
section
variable {c : Ct} {Dl : Addr}
/-- within the block: the list that grows stands at Dl -/
abbrev InS (c : Ct) (Dl : Addr) (vacc : List V) (F H : Hp) (σ : L2.St) (ρ : List Slot) : Prop := (c.at (upd c.B Dl (.lst vacc))).S F H σ ρ
/-- what a body is upon trees -/
def BodyOk (c : Ct) (Dl : Addr) (us : List Nat) (hb : (Hp → Prop) → L2.St → Hp → Prop) (tb : TB) : Prop :=
  ∀ (F H : Hp) (σ : L2.St) (ρ : List Slot) (acc : List D) (vacc : List V) (P : List D → Prop) (Nx : Hp → Prop), InS c Dl vacc F H σ ρ → Rs c.K c.T F acc vacc → tb ρ acc P →
    (∀ F' H' acc' vacc', P acc' → InS c Dl vacc' F' H' (wipe σ us) (wipeR ρ us) → Same F F' → Rs c.K c.T F' acc' vacc' → Nx H') → hb Nx σ H
theorem body_elt {e : WE} (b0 : c.B Dl = none) (f0 : c.F0 Dl = none) : BodyOk c Dl [] (bElt (anyE c e) Dl) (eltL e) := by
  intro F H σ ρ acc vacc P Nx S ra w q
  refine ⟨_, F, ρ, _, _, S, w, fun d v F5 H5 w5 S5 e5 r5 => ?_, fun _ _ _ _ _ z => z.elim⟩
  obtain ⟨h1, S6⟩ := S5.leave b0 f0
  refine ⟨vacc, h1, by rw [← ra.length]; exact w5.1, ?_⟩
  have S7 := S6.enter cut_same (.lst (vacc ++ [v]))
  rw [upd_cut] at S7
  exact q F5 _ _ _ w5.2 S7 e5 ((ra.mono e5).append (Rs.one r5))
theorem nest_read {sl us vs1 : List Nat} {g : WG} {hb : (Hp → Prop) → L2.St → Hp → Prop} {tb : TB} {J : It} {items : List D} {F H : Hp} {σ : L2.St} {ρ : List Slot} {acc : List D} {vacc : List V} {P : List D → Prop} {Nx : Hp → Prop} (hus : ∀ i ∈ us, i ∈ vs1) (hsl : ∀ i ∈ sl, i ∈ vs1) (hB : BodyOk c Dl us hb tb)
    (S : InS c Dl vacc F H σ ρ) (ra : Rs c.K c.T F acc vacc) (w : nestL g (wipeR ρ vs1) tb items acc P) (k : Walk c J F items)
    (q : ∀ F' H' acc' vacc', P acc' → InS c Dl vacc' F' H' (wipe σ vs1) (wipeR ρ vs1) → Same F F' → Rs c.K c.T F' acc' vacc' → Nx H') : tNest J (anyG c sl g) vs1 hb Nx σ H := by
  refine ⟨fun j m H' => ∃ F' acc' vacc', InS c Dl vacc' F' H' (wipe σ vs1) (wipeR ρ vs1) ∧ Same F F' ∧ j ≤ items.length ∧ m = items.length - j ∧ Rs c.K c.T F' acc' vacc' ∧ nestL g (wipeR ρ vs1) tb (items.drop j) acc' P,
    ⟨items.length, F, acc, vacc, Stt.wipe S vs1, Same.refl F, Nat.zero_le _, rfl, ra, w⟩, ?_⟩
  rintro j m H' ⟨F', acc', vacc', S', e', hj, rfl, ra', w'⟩
  by_cases hlt : j < items.length
  · refine .inr ⟨k.go j F' H' e' S'.gr.sub hlt, fun H2 => ∃ F2 acc2 vacc2, InS c Dl vacc2 F2 H2 (wipe σ vs1) (wipeR ρ vs1) ∧ Same F F2 ∧ Rs c.K c.T F2 acc2 vacc2 ∧ nestL g (wipeR ρ vs1) tb (items.drop (j + 1)) acc2 P,
      fun H2 ⟨F2, acc2, vacc2, h1, h2, h3, h4⟩ => ⟨items.length - (j + 1), by omega, F2, acc2, vacc2, h1, h2, hlt, rfl, h3, h4⟩, fun y H2 hy => ?_⟩
    have ed : items[j]? = some items[j] := List.getElem?_eq_getElem hlt
    obtain ⟨F2, S2, e2, r2⟩ := k.yld _ _ _ j _ F' _ _ _ ed S' e' y H2 hy
    have el : items.drop j = items[j] :: items.drop (j + 1) := List.drop_eq_getElem_cons hlt
    rw [el] at w'
    refine ⟨_, F2, _, _, _, S2, r2, w', fun ρ3 σ3 F3 H3 w3 S3 e3 on => ?_⟩
    have o1 : wipe σ3 vs1 = wipe σ vs1 := (on vs1 hsl).1.trans (wipe_all fun _ z => z)
    have o2 : wipeR ρ3 vs1 = wipeR ρ vs1 := (on vs1 hsl).2.trans (wipeR_all fun _ z => z)
    refine ⟨o1, hB F3 H3 σ3 ρ3 acc' vacc' _ _ S3 (ra'.mono (e2.trans e3)) w3 fun F4 H4 acc4 vacc4 w4 S4 e4 ra4 => ?_⟩
    have S5 := Stt.wipe (c := c.at (upd c.B Dl (.lst vacc4))) S4 vs1
    rw [wipe_big hus, wipeR_big hus, o1, o2] at S5
    exact ⟨F4, acc4, vacc4, S5, ((e'.trans e2).trans e3).trans e4, ra4, w4⟩
  · have en : j = items.length := by omega
    subst en
    rw [List.drop_eq_nil_of_le (Nat.le_refl _)] at w'
    exact .inl ⟨k.stop _ F' _ e' S'.gr.sub (Nat.le_refl _), q F' H' acc' vacc' w' S' e' ra'⟩
theorem body_for {sl us vs1 : List Nat} {wi : WI} {g : WG} {hb : (Hp → Prop) → L2.St → Hp → Prop} {tb : TB} (hus : ∀ i ∈ us, i ∈ vs1) (hsl : ∀ i ∈ sl, i ∈ vs1) (hB : BodyOk c Dl us hb tb) : BodyOk c Dl vs1 (bFor (anyI c wi) (anyG c sl g) vs1 hb) (forB wi g vs1 tb) := by
  intro F H σ ρ acc vacc P Nx S ra w q
  refine ⟨_, F, ρ, _, _, S, w, fun items J F1 H1 w1 S1 e1 k => ?_, fun _ _ _ _ _ z => z.elim⟩
  exact nest_read hus hsl hB S1 (ra.mono e1) w1 ⟨k.go, k.stop, k.yld⟩ fun F' H' acc' vacc' p S' e' ra' => q F' H' acc' vacc' p S' (e1.trans e') ra'
theorem lc3_read {vs vs1 vs2 sl sl1 sl2 : List Nat} {wi wi1 wi2 : WI} {g g1 g2 : WG} {e : WE} {F H : Hp} {σ : L2.St} {Q : VK} (h0 : ∀ i ∈ sl, i ∈ vs) (h1 : ∀ i ∈ sl1, i ∈ vs1) (h2 : ∀ i ∈ sl2, i ∈ vs2) (u1 : ∀ i ∈ vs1, i ∈ vs) (u2 : ∀ i ∈ vs2, i ∈ vs1) :
    liftF c (wLc3 vs vs1 vs2 wi g wi1 g1 wi2 g2 e) σ H Q → tLc3 (liftI c wi) (anyG c sl g) (anyI c wi1) (anyG c sl1 g1) (anyI c wi2) (anyG c sl2 g2) (anyE c e) vs vs1 vs2 σ H Q := by
  rintro ⟨F, ρ, P, E, S, ⟨no, w⟩, q, x⟩
  refine ⟨F, ρ, _, E, S, w, fun items J F1 H1 w1 S1 e1 k Dl nD => ?_, x⟩
  have f0 : c.F0 Dl = none := S1.gr.old.free (S1.gr.sub.free nD)
  have b0 : c.B Dl = none := S1.gr.keep.free nD
  have SE := S1.enter nD (.lst [])
  refine nest_read u1 h0 (body_for u2 h1 (body_for (fun _ z => by cases z) h2 (body_elt b0 f0))) SE (show Rs c.K c.T F1 [] [] from rfl) w1 k fun F' H' acc' vacc' p S' e' ra => ?_
  obtain ⟨hp, S2⟩ := S'.leave b0 f0
  have S3 := Stt.unwipe S1 S2 e' no
  have := q acc' vacc' Dl F' (cut H' Dl) p S3 (e1.trans e') ra cut_same
  rwa [cut_upd hp] at this
end
section
variable {c : Ct} {X : Cx}
theorem lf_lc3 {elt t0 i0 t1 i1 t2 i2 : Expr} {scope : Scope} {own : List (Str × Nat)} {vs1 vs2 sl sl1 sl2 : List Nat} {pos : Pos} {wi wi1 wi2 : WI} {g g1 g2 : WG} {e : WE} (hc : X.calm = true) (hN : X.N.Nodup) (hi : PI X t0 i0 (liftI c wi)) (ok : BlkOk X.N X.env.scope scope own) (h0 : ∀ i ∈ sl, i ∈ own.map (·.2)) (h1 : ∀ i ∈ sl1, i ∈ vs1) (h2 : ∀ i ∈ sl2, i ∈ vs2) (u1 : ∀ i ∈ vs1, i ∈ own.map (·.2)) (u2 : ∀ i ∈ vs2, i ∈ vs1)
    (hg : ∀ (s : Shared) (H : Hp) (C : Addr) (cl : List (Str × Addr)) (fp : List Addr) (B : Hp), PG (X.blk s H scope (compEnvC scope cl C X.env) fp) t0 (liftG (c.at B) sl g))
    (hi1 : ∀ (s : Shared) (H : Hp) (C : Addr) (cl : List (Str × Addr)) (fp : List Addr) (B : Hp), PI (X.blk s H scope (compEnvC scope cl C X.env) fp) t1 i1 (liftI (c.at B) wi1)) (hg1 : ∀ (s : Shared) (H : Hp) (C : Addr) (cl : List (Str × Addr)) (fp : List Addr) (B : Hp), PG (X.blk s H scope (compEnvC scope cl C X.env) fp) t1 (liftG (c.at B) sl1 g1))
    (hi2 : ∀ (s : Shared) (H : Hp) (C : Addr) (cl : List (Str × Addr)) (fp : List Addr) (B : Hp), PI (X.blk s H scope (compEnvC scope cl C X.env) fp) t2 i2 (liftI (c.at B) wi2)) (hg2 : ∀ (s : Shared) (H : Hp) (C : Addr) (cl : List (Str × Addr)) (fp : List Addr) (B : Hp), PG (X.blk s H scope (compEnvC scope cl C X.env) fp) t2 (liftG (c.at B) sl2 g2))
    (he : ∀ (s : Shared) (H : Hp) (C : Addr) (cl : List (Str × Addr)) (fp : List Addr) (B : Hp), PE (X.blk s H scope (compEnvC scope cl C X.env) fp) elt (liftE (c.at B) e)) (hs0 : ∀ x, foldedSetIterable i0 X.env x = pure x) (hs1 : ∀ env x, foldedSetIterable i1 env x = pure x) (hs2 : ∀ env x, foldedSetIterable i2 env x = pure x) :
    PE X (C3 elt t0 i0 t1 i1 t2 i2 scope pos) (liftF c (wLc3 (own.map (·.2)) vs1 vs2 wi g wi1 g1 wi2 g2 e)) :=
  pe_weak (pe_lc3 hc hN hi ok u1 u2 (fun s H C cl fp => any_g (hg s H C cl fp)) (fun s H C cl fp => any_i (hi1 s H C cl fp)) (fun s H C cl fp => any_g (hg1 s H C cl fp)) (fun s H C cl fp => any_i (hi2 s H C cl fp)) (fun s H C cl fp => any_g (hg2 s H C cl fp)) (fun s H C cl fp => any_e (he s H C cl fp)) hs0 hs1 hs2) fun σ H Q => lc3_read (F := H) (H := H) h0 h1 h2 u1 u2
end
end Tr

namespace TL
open PySem PySem.Spec PyProof.Rows L2
open Tr (wipe_all)

/-! ### comprehensions of two clauses without tests -/
abbrev C2 (elt t0 i0 t1 i1 : Expr) (scope : Scope) (pos : Pos) : Expr := .ListComp elt [⟨t0, i0, [], 0⟩, ⟨t1, i1, [], 0⟩] scope pos
section
variable {elt t0 i0 t1 i1 : Expr} {scope : Scope} {pos : Pos} {it acc : Value} {env : Env}
theorem turn20 : compTurn (C2 elt t0 i0 t1 i1 scope pos) 0 it acc env = turnUp (C2 elt t0 i0 t1 i1 scope pos) t0 i0 i1 0 it acc env := by rfl
theorem turn21 : compTurn (C2 elt t0 i0 t1 i1 scope pos) 1 it acc env = turnIn (C2 elt t0 i0 t1 i1 scope pos) t1 i1 elt 1 it acc env := by rfl
end
section
variable {prog : Program} {w : World} {A : Around} {R : Result → Shared → Prop} {s : Shared} {elt t0 i0 t1 i1 : Expr} {scope : Scope} {pos : Pos} {it acc : Value} {env : Env}
theorem start_21 (h0 : codeAny (model prog w) A (.compLoop (C2 elt t0 i0 t1 i1 scope pos) 1 it acc env) R s) (h : wpAny (model prog w) A (pyIter it) (fun z s' => codeAny (model prog w) A (.compLoop (C2 elt t0 i0 t1 i1 scope pos) 1 z acc env) R s') (NB prog w A env R) s) :
    codeAny (model prog w) A (.compStart (C2 elt t0 i0 t1 i1 scope pos) 1 it acc env) R s := by
  refine codeAny_of_tree ?_
  show wpAny _ _ ((compStart (C2 elt t0 i0 t1 i1 scope pos) 1 it acc env).onRaise (fun x => do noteFrame x env; standAt theWindowsPlace)) _ _ s
  refine wpAny_notedAt ?_
  unfold compStart
  show wpAny _ _ (ask >>= _) _ _ s
  refine wpAny_bind (wpAny_askSetting (wpAny_ite ?_))
  split
  · first | exact wpAny_bind (wpAny_pure (wpAny_pure (And.intro rfl h0))) | exact wpAny_pure (And.intro rfl h0)
  · refine wpAny_bind (wpAny_rule ?_)
    show wpAny _ _ (standAt i1.pos >>= _) _ _ s
    exact wpAny_bind (wpAny_standAt (wpAny_bind (wpAny_mono h (fun z s' q => wpAny_pure (And.intro rfl q)) fun _ _ x => x)))
end
def tLc2 (wi : TI) (g : TG) (wi1 : TI) (g1 : TG) (te : TE) (vs vs1 : List Nat) : TE := fun σ H Q => wi σ H fun J H1 => ∀ D, H1 D = none → tNest J g vs (bFor wi1 g1 vs1 (bElt te D)) (fun H' => Q (.ref D) H') σ (upd H1 D (.lst []))
section
variable {X : Cx} {elt t0 i0 t1 i1 : Expr} {scope : Scope} {own : List (Str × Nat)} {vs1 : List Nat} {pos : Pos} {wi wi1 : TI} {g g1 : TG} {te : TE}
theorem lc2_core {pins : List (Addr × Obj)} {s : Shared} {σ : L2.St} {H : Hp} {Q : VK} {pos' : Pos} {use : Option (Value → Sem Unit)} {Qf : Value → Shared → Prop} (hc : X.calm = true) (hN : X.N.Nodup) (I : Inv X pins σ H s) (hi : PI X t0 i0 wi) (ok : BlkOk X.N X.env.scope scope own) (v1 : ∀ i ∈ vs1, i ∈ own.map (·.2))
    (hg : ∀ (s : Shared) (H : Hp) (C : Addr) (cl : List (Str × Addr)) (fp : List Addr), PG (X.blk s H scope (compEnvC scope cl C X.env) fp) t0 g)
    (hi1 : ∀ (s : Shared) (H : Hp) (C : Addr) (cl : List (Str × Addr)) (fp : List Addr), PI (X.blk s H scope (compEnvC scope cl C X.env) fp) t1 i1 wi1) (hg1 : ∀ (s : Shared) (H : Hp) (C : Addr) (cl : List (Str × Addr)) (fp : List Addr), PG (X.blk s H scope (compEnvC scope cl C X.env) fp) t1 g1)
    (he : ∀ (s : Shared) (H : Hp) (C : Addr) (cl : List (Str × Addr)) (fp : List Addr), PE (X.blk s H scope (compEnvC scope cl C X.env) fp) elt te) (hs0 : ∀ x, foldedSetIterable i0 X.env x = pure x) (hs1 : ∀ env x, foldedSetIterable i1 env x = pure x)
    (h : tLc2 wi g wi1 g1 te (own.map (·.2)) vs1 σ H Q)
    (hRR : ∀ D C s' m H', Inv X pins σ H' s' → Q (.ref D) H' → s'.heap.Ns C m → FpOk X pins H' C → compPost (model X.prog X.w) X.A X.xe use Qf (.ref D) C (.ok .next) s') :
    wpAny (model X.prog X.w) X.A (comprehension (C2 elt t0 i0 t1 i1 scope pos) scope X.env pos' (newList []) false (eval i0 X.env) use) Qf X.xe s := by
  have hfree : ∀ y ∈ scope.names, y.2 = .free → ∃ c, X.env.cells.lookup y.1 = some c := fun y hy e => (ok.free y hy e).elim (fun k => I.ok.has _ (.inl k)) fun k => I.ok.has _ (.inr k)
  refine wpAny_comprehension_free (use := use) rfl hs0 (closure_ok hfree) ok.kind (fun y hy e => by rw [ok.uniq y hy, e]) (thn (hi.run pins s σ H _ I h) fun xv s1 hx => thn hx fun itv s2 hpi => ?_)
  obtain ⟨it, fp, tn, J, H2, e, I2, T, st2, f2, q⟩ := hpi
  subst e
  refine wpAny_newObj_type (newEnv_comp ?_) (by show 0 ≤ sizeLine; decide)
  obtain ⟨D, hD⟩ : ∃ D, D = s2.heap.objs.size := ⟨_, rfl⟩
  rw [← hD]
  have qD := q D (I2.hok.fresh (Nat.le_of_eq hD.symm))
  obtain ⟨s3, e3⟩ : ∃ s3 : Shared, s3 = { s2 with heap := s2.heap.push { cls := .type "list", data := .seq ([] : List Value).toArray } } := ⟨_, rfl⟩
  rw [← e3]
  have h3 : s3.heap = s2.heap.push { cls := .type "list", data := .seq ([] : List Value).toArray } := by rw [e3]
  have I3 : Inv X pins σ (upd H2 D (.lst [])) s3 := by
    rw [e3]
    refine I2.laid (t' := s2.toks) (fun b o e => Heap.get?_push_of_some _ e) (Nat.le_of_eq hD.symm) ⟨Nat.zero_le _, [], 0, .nil, ?_⟩
    rw [hD]
    exact Heap.get?_push_size _ rfl
  have f3 : ∀ b ∈ fp, FpOk X pins (upd H2 D (.lst [])) b ∧ b < s3.heap.objs.size := fun b hb => by
    obtain ⟨o, eo, _⟩ := T.obj _ _ st2 b hb
    have lt := Heap.lt_size eo
    refine ⟨⟨?_, (f2 b hb).2⟩, by rw [h3, Heap.size_push]; exact Nat.lt_succ_of_lt lt⟩
    rw [upd_ne (by rw [hD]; exact Nat.ne_of_lt lt)]
    exact (f2 b hb).1
  have st3 : tn 0 s3.heap := T.keep _ _ _ st2 fun b _ o eo => by rw [h3]; exact Heap.get?_push_of_some _ eo
  have I4 := block_start I3 ok hN f3
  obtain ⟨H3, eH⟩ : ∃ H3, H3 = upd H2 D (.lst []) := ⟨_, rfl⟩
  rw [← eH] at qD I3 f3 I4
  obtain ⟨cl, ecl⟩ : ∃ cl, cl = cellsFrom (s3.heap.objs.size + 1) scope.names (cloFrom X.env.cells scope.names []) := ⟨_, rfl⟩
  rw [← ecl] at I4
  have pg := hg s3 H3 s3.heap.objs.size cl fp
  have pi1 := hi1 s3 H3 s3.heap.objs.size cl fp
  have pg1 := hg1 s3 H3 s3.heap.objs.size cl fp
  have pe := he s3 H3 s3.heap.objs.size cl fp
  show codeAny _ _ (.compStart (C2 elt t0 i0 t1 i1 scope pos) 0 (.ref it) (.ref D) (compEnvC scope (cellsFrom (s3.heap.objs.size + 1) scope.names (cloFrom X.env.cells scope.names [])) s3.heap.objs.size X.env)) _ { s3 with heap := pushCells (s3.heap.push { cls := .type "dict", data := .dict #[] }) scope.names }
  rw [← ecl]
  obtain ⟨ce, ece⟩ : ∃ ce, ce = compEnvC scope cl s3.heap.objs.size X.env := ⟨_, rfl⟩
  have cL : ce.locals = s3.heap.objs.size := by rw [ece]; rfl
  rw [← ece] at I4 pg pi1 pg1 pe ⊢
  obtain ⟨s4, e4⟩ : ∃ s4 : Shared, s4 = { s3 with heap := pushCells (s3.heap.push { cls := .type "dict", data := .dict #[] }) scope.names } := ⟨_, rfl⟩
  rw [← e4] at I4 ⊢
  have st4 : tn 0 s4.heap := T.keep _ _ _ st3 fun b _ o eo => by rw [e4]; exact pushCells_keeps _ _ _ _ (Heap.get?_push_of_some _ eo)
  have hxB : ∀ e s, ¬ (X.blk s3 H3 scope ce fp).xe e s := fun _ _ z => z
  have f4 : ∀ b ∈ fp, FpOk (X.blk s3 H3 scope ce fp) [] H3 b := fun b hb =>
    ⟨(f3 b hb).1.1, (I4.ok.exf b hb).1, I4.ok.exfs b hb, .inl hb, fun x c eo => (I4.ok.exf b hb).2 x c eo, fun p hp => absurd (show p ∈ ([] : List (Addr × Obj)) ++ [] from hp) (by simp)⟩
  have qW : tNest J g (own.map (·.2)) (bFor wi1 g1 vs1 (bElt te D)) (fun H' => Q (.ref D) H') (wipe σ (own.map (·.2))) H3 := by
    obtain ⟨W, w0, turn⟩ := qD
    refine ⟨W, w0, fun j k H' w => ?_⟩
    rw [wipe_all fun _ z => z]
    exact turn j k H' w
  -- the end, seen from the def
  have out : ∀ s' H', Inv (X.blk s3 H3 scope ce fp) [] (wipe (wipe σ (own.map (·.2))) (own.map (·.2))) H' s' → Q (.ref D) H' → compPost (model X.prog X.w) X.A X.xe use Qf (.ref D) s3.heap.objs.size (.ok .next) s' := fun s' H' I6 qq => by
    have I7 : Inv X pins σ H' s' := I3.call' (ch := fp) I6.os I6.base I6.hok I6.bare fun b hb => ⟨(f3 b hb).1.2.2.2.1, (f3 b hb).1.2.1, (f3 b hb).1.2.2.2.2.1, (f3 b hb).1.2.2.2.2.2⟩
    have nC : H' s3.heap.objs.size = none := by
      have z : H' ce.locals = none := I6.free
      rwa [cL] at z
    obtain ⟨m, hn, _⟩ := I6.loc
    have hn : s'.heap.Ns ce.locals m := hn
    rw [cL] at hn
    exact hRR D _ s' m H' I7 qq hn (I3.fpOk (H' := H') (Nat.le_refl _) nC)
  have main : codeAny (model X.prog X.w) X.A (.compLoop (C2 elt t0 i0 t1 i1 scope pos) 0 (.ref it) (.ref D) ce) (compPost (model X.prog X.w) X.A X.xe use Qf (.ref D) s3.heap.objs.size) s4 := by
    refine nest (Y := X.blk s3 H3 scope ce fp) (pins := []) (σ := wipe σ (own.map (·.2))) (rest := fun n Z s3 => upRest X.prog X.w X.A (C2 elt t0 i0 t1 i1 scope pos) i1 1 (.ref D) ce _ Z s3) hxB hc pg I4 T st4 f4 qW out (fun I turn n hn => up_loop rfl rfl turn20 (hs1 ce) I turn n hn) ?_
    -- the second clause
    intro n pins1 σ3 H5 s5 Nx1 Z hw1 I5 q5 hZ
    refine thnX hxB (pi1.run pins1 s5 σ3 H5 _ I5 q5) fun xv s6 hx6 => thnX hxB hx6 fun itv s7 h7 => ?_
    obtain ⟨it1, fp1, tn1, J1, H7, e7, I7, T1, st7, f7, q7⟩ := h7
    subst e7
    have loop1 : codeAny (model X.prog X.w) X.A (.compLoop (C2 elt t0 i0 t1 i1 scope pos) 1 (.ref it1) (.ref D) ce) (fun r s' => match r with | .ok _ => Z s' | .error _ => False) s7 := by
      refine nest (Y := X.blk s3 H3 scope ce fp) (rest := fun n Z s3 => inRest X.prog X.w X.A elt (.ref D) ce _ Z s3) hxB hc pg1 I7 T1 st7 f7 q7 (fun s' H' I' nx => hZ (wipe σ3 vs1) H' s' ((wipe_big v1).trans hw1) I' nx) (fun I turn n hn => in_loop rfl rfl turn21 I turn n hn) ?_
      intro n3 pins3 σ5 H11 s11 Nx3 Z3 hw3 I11 q11 hZ3
      refine thnX hxB (pe.run _ s11 σ5 H11 _ I11 q11) fun yv s12 ⟨y, H12, I12, r12, acc, hD12, hz12, nx⟩ => ?_
      exact app_ok (X := X.blk s3 H3 scope ce fp) I12 hD12 hz12 r12 fun s13 I13 => hZ3 σ5 _ s13 hw3 I13 nx
    exact start_21 loop1 (T1.self X.A 0 _ _ _ st7 loop1)
  exact codeAny_compStart_list main (T.self X.A 0 _ _ _ st4 main)
theorem pe_lc2 (hc : X.calm = true) (hN : X.N.Nodup) (hi : PI X t0 i0 wi) (ok : BlkOk X.N X.env.scope scope own) (v1 : ∀ i ∈ vs1, i ∈ own.map (·.2))
    (hg : ∀ (s : Shared) (H : Hp) (C : Addr) (cl : List (Str × Addr)) (fp : List Addr), PG (X.blk s H scope (compEnvC scope cl C X.env) fp) t0 g)
    (hi1 : ∀ (s : Shared) (H : Hp) (C : Addr) (cl : List (Str × Addr)) (fp : List Addr), PI (X.blk s H scope (compEnvC scope cl C X.env) fp) t1 i1 wi1) (hg1 : ∀ (s : Shared) (H : Hp) (C : Addr) (cl : List (Str × Addr)) (fp : List Addr), PG (X.blk s H scope (compEnvC scope cl C X.env) fp) t1 g1)
    (he : ∀ (s : Shared) (H : Hp) (C : Addr) (cl : List (Str × Addr)) (fp : List Addr), PE (X.blk s H scope (compEnvC scope cl C X.env) fp) elt te) (hs0 : ∀ x, foldedSetIterable i0 X.env x = pure x) (hs1 : ∀ env x, foldedSetIterable i1 env x = pure x) :
    PE X (C2 elt t0 i0 t1 i1 scope pos) (tLc2 wi g wi1 g1 te (own.map (·.2)) vs1) := by
  refine ⟨fun pins s σ H Q I h => ?_⟩
  rw [eval_ListComp]
  refine lc2_core hc hN I hi ok v1 hg hi1 hg1 he hs0 hs1 h fun D C s' m H' I' q hn f => ⟨m, hn, fun h'' sb => ?_⟩
  obtain ⟨f0, f1, f2, f3, f4, f5⟩ := f
  exact ⟨.ref D, H', I'.turned (t' := s'.toks) (fun b o hb e => (sb.2 b hb).trans e) f0 f1 f3 f4 f5, rfl, q⟩
theorem ps_setC2 {i : Nat} {y : Str} {py spos : Pos} (hc : X.calm = true) (hN : X.N.Nodup) (hy : X.N[i]? = some y) (hyl : X.env.scope.names.lookup y = some .local) (hsw : swapsWith (C2 elt t0 i0 t1 i1 scope pos) (some (.Name y py)) spos.line X.env = pure true) (hi : PI X t0 i0 wi) (ok : BlkOk X.N X.env.scope scope own) (v1 : ∀ i ∈ vs1, i ∈ own.map (·.2))
    (hg : ∀ (s : Shared) (H : Hp) (C : Addr) (cl : List (Str × Addr)) (fp : List Addr), PG (X.blk s H scope (compEnvC scope cl C X.env) fp) t0 g)
    (hi1 : ∀ (s : Shared) (H : Hp) (C : Addr) (cl : List (Str × Addr)) (fp : List Addr), PI (X.blk s H scope (compEnvC scope cl C X.env) fp) t1 i1 wi1) (hg1 : ∀ (s : Shared) (H : Hp) (C : Addr) (cl : List (Str × Addr)) (fp : List Addr), PG (X.blk s H scope (compEnvC scope cl C X.env) fp) t1 g1)
    (he : ∀ (s : Shared) (H : Hp) (C : Addr) (cl : List (Str × Addr)) (fp : List Addr), PE (X.blk s H scope (compEnvC scope cl C X.env) fp) elt te) (hs0 : ∀ x, foldedSetIterable i0 X.env x = pure x) (hs1 : ∀ env x, foldedSetIterable i1 env x = pure x) :
    PS X (.Assign [.Name y py] (C2 elt t0 i0 t1 i1 scope pos) spos) (tAsg (tLc2 wi g wi1 g1 te (own.map (·.2)) vs1) (gName i)) := by
  refine ⟨fun pins s σ H D I h => ?_⟩
  rw [exec_Assign_Name_used _ _ _ _ hsw]
  refine wpAny_bind (wpAny_standAt (wpAny_bind ?_))
  show wpAny _ X.A (do let _ ← comprehension (C2 elt t0 i0 t1 i1 scope pos) scope X.env (firstIterPos [⟨t0, i0, [], 0⟩, ⟨t1, i1, [], 0⟩] pos) (newList []) false (eval i0 X.env) (some (assign (.Name y py) X.env))) _ _ s
  have h : tLc2 wi g wi1 g1 te (own.map (·.2)) vs1 σ H (fun x H1 => gName i x σ H1 D.nx) := h
  refine wpAny_bind (thn (lc2_core (Qf := fun _ s' => SP X pins D .next s') hc hN I hi ok v1 hg hi1 hg1 he hs0 hs1 h fun L C s' m H' I' q hn f => ?_) fun _ s' hq => wpAny_pure (wpAny_pure hq))
  show wpAny _ _ (assign (.Name y py) X.env (.ref L)) _ _ _
  refine wpAny_assign_Name (store_ok2 (v := V.ref L) I' hN hy (.inl hyl) rfl (fun s2 I2 ⟨a, sb, ha⟩ => ?_) (.inr hyl))
  obtain ⟨f0, f1, f2, f3, f4, f5⟩ := f
  have haC : C ≠ a := by
    rcases ha with z | z
    · rw [z]; exact f1
    · exact fun e => f4 y a z e.symm
  refine ⟨m, hn.sameBut sb haC, fun h3 sb3 => ?_⟩
  exact ⟨_, H', I2.turned (t' := s2.toks) (fun b o hb e => (sb3.2 b hb).trans e) f0 f1 f3 f4 f5, q⟩
end
end TL
namespace Tr
open PySem PySem.Spec PyProof.Rows L2 TL
def wLc2 (vs vs1 : List Nat) (wi : WI) (g : WG) (wi1 : WI) (g1 : WG) (e : WE) : WE := fun ρ P E => noOwn ρ vs = true ∧ wi ρ (fun items => nestL g (wipeR ρ vs) (forB wi1 g1 vs1 (eltL e)) items [] fun acc => P (.lst acc)) E
section
variable {c : Ct} {Dl : Addr}
theorem lc2_read {vs vs1 sl sl1 : List Nat} {wi wi1 : WI} {g g1 : WG} {e : WE} {F H : Hp} {σ : L2.St} {Q : VK} (h0 : ∀ i ∈ sl, i ∈ vs) (h1 : ∀ i ∈ sl1, i ∈ vs1) (u1 : ∀ i ∈ vs1, i ∈ vs) :
    liftF c (wLc2 vs vs1 wi g wi1 g1 e) σ H Q → tLc2 (liftI c wi) (anyG c sl g) (anyI c wi1) (anyG c sl1 g1) (anyE c e) vs vs1 σ H Q := by
  rintro ⟨F, ρ, P, E, S, ⟨no, w⟩, q, x⟩
  refine ⟨F, ρ, _, E, S, w, fun items J F1 H1 w1 S1 e1 k Dl nD => ?_, x⟩
  have f0 : c.F0 Dl = none := S1.gr.old.free (S1.gr.sub.free nD)
  have b0 : c.B Dl = none := S1.gr.keep.free nD
  have SE := S1.enter nD (.lst [])
  refine nest_read u1 h0 (body_for (fun _ z => by cases z) h1 (body_elt b0 f0)) SE (show Rs c.K c.T F1 [] [] from rfl) w1 k fun F' H' acc' vacc' p S' e' ra => ?_
  obtain ⟨hp, S2⟩ := S'.leave b0 f0
  have S3 := Stt.unwipe S1 S2 e' no
  have := q acc' vacc' Dl F' (cut H' Dl) p S3 (e1.trans e') ra cut_same
  rwa [cut_upd hp] at this
end
section
variable {c : Ct} {X : Cx}
theorem lf_lc2 {elt t0 i0 t1 i1 : Expr} {scope : Scope} {own : List (Str × Nat)} {vs1 sl sl1 : List Nat} {pos : Pos} {wi wi1 : WI} {g g1 : WG} {e : WE} (hc : X.calm = true) (hN : X.N.Nodup) (hi : PI X t0 i0 (liftI c wi)) (ok : BlkOk X.N X.env.scope scope own) (h0 : ∀ i ∈ sl, i ∈ own.map (·.2)) (h1 : ∀ i ∈ sl1, i ∈ vs1) (u1 : ∀ i ∈ vs1, i ∈ own.map (·.2))
    (hg : ∀ (s : Shared) (H : Hp) (C : Addr) (cl : List (Str × Addr)) (fp : List Addr) (B : Hp), PG (X.blk s H scope (compEnvC scope cl C X.env) fp) t0 (liftG (c.at B) sl g))
    (hi1 : ∀ (s : Shared) (H : Hp) (C : Addr) (cl : List (Str × Addr)) (fp : List Addr) (B : Hp), PI (X.blk s H scope (compEnvC scope cl C X.env) fp) t1 i1 (liftI (c.at B) wi1)) (hg1 : ∀ (s : Shared) (H : Hp) (C : Addr) (cl : List (Str × Addr)) (fp : List Addr) (B : Hp), PG (X.blk s H scope (compEnvC scope cl C X.env) fp) t1 (liftG (c.at B) sl1 g1))
    (he : ∀ (s : Shared) (H : Hp) (C : Addr) (cl : List (Str × Addr)) (fp : List Addr) (B : Hp), PE (X.blk s H scope (compEnvC scope cl C X.env) fp) elt (liftE (c.at B) e)) (hs0 : ∀ x, foldedSetIterable i0 X.env x = pure x) (hs1 : ∀ env x, foldedSetIterable i1 env x = pure x) :
    PE X (C2 elt t0 i0 t1 i1 scope pos) (liftF c (wLc2 (own.map (·.2)) vs1 wi g wi1 g1 e)) :=
  pe_weak (pe_lc2 hc hN hi ok u1 (fun s H C cl fp => any_g (hg s H C cl fp)) (fun s H C cl fp => any_i (hi1 s H C cl fp)) (fun s H C cl fp => any_g (hg1 s H C cl fp)) (fun s H C cl fp => any_e (he s H C cl fp)) hs0 hs1) fun σ H Q => lc2_read (F := H) (H := H) h0 h1 u1
theorem ls_lc2 {i : Nat} {y : Str} {py spos : Pos} {elt t0 i0 t1 i1 : Expr} {scope : Scope} {own : List (Str × Nat)} {vs1 sl sl1 : List Nat} {pos : Pos} {wi wi1 : WI} {g g1 : WG} {e : WE} (hc : X.calm = true) (hN : X.N.Nodup) (hy : X.N[i]? = some y) (hyl : X.env.scope.names.lookup y = some .local) (hsw : swapsWith (C2 elt t0 i0 t1 i1 scope pos) (some (.Name y py)) spos.line X.env = pure true) (hi : PI X t0 i0 (liftI c wi)) (ok : BlkOk X.N X.env.scope scope own) (h0 : ∀ i ∈ sl, i ∈ own.map (·.2)) (h1 : ∀ i ∈ sl1, i ∈ vs1) (u1 : ∀ i ∈ vs1, i ∈ own.map (·.2))
    (hg : ∀ (s : Shared) (H : Hp) (C : Addr) (cl : List (Str × Addr)) (fp : List Addr) (B : Hp), PG (X.blk s H scope (compEnvC scope cl C X.env) fp) t0 (liftG (c.at B) sl g))
    (hi1 : ∀ (s : Shared) (H : Hp) (C : Addr) (cl : List (Str × Addr)) (fp : List Addr) (B : Hp), PI (X.blk s H scope (compEnvC scope cl C X.env) fp) t1 i1 (liftI (c.at B) wi1)) (hg1 : ∀ (s : Shared) (H : Hp) (C : Addr) (cl : List (Str × Addr)) (fp : List Addr) (B : Hp), PG (X.blk s H scope (compEnvC scope cl C X.env) fp) t1 (liftG (c.at B) sl1 g1))
    (he : ∀ (s : Shared) (H : Hp) (C : Addr) (cl : List (Str × Addr)) (fp : List Addr) (B : Hp), PE (X.blk s H scope (compEnvC scope cl C X.env) fp) elt (liftE (c.at B) e)) (hs0 : ∀ x, foldedSetIterable i0 X.env x = pure x) (hs1 : ∀ env x, foldedSetIterable i1 env x = pure x) :
    PS X (.Assign [.Name y py] (C2 elt t0 i0 t1 i1 scope pos) spos) (tAsg (liftF c (wLc2 (own.map (·.2)) vs1 wi g wi1 g1 e)) (gName i)) :=
  ps_weak (ps_setC2 hc hN hy hyl hsw hi ok u1 (fun s H C cl fp => any_g (hg s H C cl fp)) (fun s H C cl fp => any_i (hi1 s H C cl fp)) (fun s H C cl fp => any_g (hg1 s H C cl fp)) (fun s H C cl fp => any_e (he s H C cl fp)) hs0 hs1) fun D0 σ H => lc2_read (F := H) (H := H) h0 h1 u1
end
end Tr

set_option maxHeartbeats 2000000
/-! An own error over ValueError (by own classes between) whose __init__ says super().__init__(f"..{a}"); self.f = a. -/
namespace PySem
namespace TrX
open PySem.W PySem.Calls PyProof.Rows PySem.HandSPX

/-- a text or a whole number that an f-string takes -/
def FmtOk : Value → Prop
  | .str y _ => y.length ≤ 1000
  | .int i _ => i.natAbs.log2 < 1920
  | _ => False
/-- the body of such an __init__ -/
def xBody (txt : Str) (a f : Str) (j : Nat) (p0 p1 p2 p3 p4 p5 p6 p7 q1 q2 q3 q4 q5 : Pos) : List Stmt :=
  [.Expr (.Call (.Attribute (.Call (.Name "super" p0) [] [] p1) "__init__" p2) [.JoinedStr [.Constant (.str txt) j p5, .FormattedValue (.Name a q5) (-1) none p6] p7] [] p3) p4,
   .Assign [.Attribute (.Name "self" q1) f q2] (.Name a q3) q4]
/-- what its text says -/
structure XTxt (params : Arguments) (body : List Stmt) (scope : Scope) (a f : Str) : Prop where
  hb : ∃ txt j p0 p1 p2 p3 p4 p5 p6 p7 q1 q2 q3 q4 q5, body = xBody txt a f j p0 p1 p2 p3 p4 p5 p6 p7 q1 q2 q3 q4 q5 ∧ txt.length ≤ 1000 ∧ (p2.endLine == p3.line) = true
  hp : (params.posonlyargs ++ params.args).head?.map (·.arg) = some "self"
  ls : scope.names.lookup ("self" : Str) = some .local
  la : scope.names.lookup a = some .local
  lu : scope.names.lookup ("super" : Str) = some .globalImplicit
  lc : scope.names.lookup ("__class__" : Str) = some .free
  nc : ∀ x ∈ scope.names, x.2 ≠ .cell
  kf : scope.kind = .function
  co : scope.isCoroutine = false
  ge : scope.isGenerator = false
  na : (a == ("self" : Str)) = false
  nd : (a == ("__debug__" : Str)) = false
/-- what the written part says of the class at C and its __init__ at fI -/
structure XCls (K : Frag) (prog : Program) (mg : Str → Option Value) (C fI : Addr) (a f : Str) : Prop where
  cls : ∃ nm q N bs bm sn sub ab col dd k0 k1 k2 k3 k5, K.lookup C = some (excClassObj nm q C N bs bm true sn sub ab col dd k0 k1 k2 k3 k5 "ValueError.__new__") ∧ refsVE bm = true
  sa : findIn K (.ref C) "__setattr__" = some (some (.builtin "object.__setattr__"))
  noN : findIn K (.ref C) f = some none
  iC : findIn K (.ref C) "__init__" = some (some (.ref fI))
  tC : typeIn K (.ref fI) = some (.type "function")
  kC : keepIn K (.ref C) = true
  exC : subIn K (.ref C) (.type "BaseException") = some true
  tyC : typeIn K (.ref C) = some (.type "type")
  supC : ks_superIn K C C "__init__" = some (some (.builtin "ValueError.__init__"))
  veC : subIn K (.ref C) (.type "ValueError") = some true
  slC : mroIn K C (.ref C) = some true
  any : nsIn K cStatics "thirdparty.any" = some none
  gS : mg "super" = none
  top : (prog.main.scope.names.lookup ("super" : Str)).isSome = false
  fn : ∃ (name qual : Str) (params : Arguments) (body : List Stmt) (scope : Scope) (oc ccl cl doc pm ct : Value) (od cdd cld an : Option Addr) (osl ccs csl : Array (Option Value)) (cc cda : Addr) (vs : Array Value) (file : Str) (tf : Tok),
    K.lookup fI = some ⟨oc, od, .func (ksFn name qual params body scope .none .none doc pm an (.ref cda) ct cc), osl⟩ ∧ codeIn K (.ref cda) qual = true ∧ K.lookup cda = some ⟨ccl, cdd, .fields vs, ccs⟩ ∧ vs[2]? = some (.str file tf) ∧
    ((prog.main.file : Str) == file) = true ∧ K.lookup cc = some ⟨cl, cld, .cell (some (.ref C)), csl⟩ ∧ XTxt params body scope a f ∧
    ∀ (s : Shared) (x v : Value), BindsTo s (ksFn name qual params body scope .none .none doc pm an (.ref cda) ct cc) ⟨[x, v], []⟩ [("self", x), (a, v)]
/-- what __init__ leaves of a fresh exception at x -/
structure XEnd (h h' : Heap) (x C dx t1 : Addr) (f : Str) (v : Value) : Prop where
  keep : ∀ b o, b ≠ x → h.get? b = some o → h'.get? b = some o
  obj : h'.get? x = some { cls := .ref C, dict := some dx, data := .fields #[.ref t1, .none, .none, .none, .bool false, .none] }
  dbig : h.objs.size ≤ dx
  dne : dx ≠ x
  ns : h'.Ns1 dx (fun y => if y = f then some v else none)
/-- a made error -/
structure XMade (h h' : Heap) (e C d : Addr) (f : Str) (v : Value) : Prop where
  keep : ∀ b o, h.get? b = some o → h'.get? b = some o
  new : h.objs.size ≤ e
  obj : ∃ oe vs, h'.get? e = some oe ∧ oe.cls = .ref C ∧ oe.dict = some d ∧ oe.data = .fields vs ∧ vs[1]? = some .none
  dbig : h.objs.size ≤ d
  dne : d ≠ e
  ns : h'.Ns1 d (fun y => if y = f then some v else none)
theorem one_size (v : Value) : [v].length ≤ sizeLine := by
  rw [sizeLine_eq]
  exact (by decide : 1 ≤ 16777216)
section
variable {prog : Program} {w : World} {A : Around} {E : Value → Shared → Prop} {R : Result → Shared → Prop} {K : Frag} {mg : Str → Option Value} {C fI : Addr} {a f : Str}
theorem len_app (x y : Str) : (x ++ y).length = x.length + y.length := by
  show (x.cps ++ y.cps).size = x.cps.size + y.cps.size
  rw [Array.size_append]
/-- the message is made -/
theorem msg_ok {env : Env} {s : Shared} {v : Value} {txt : Str} {j : Nat} {p5 q5 p6 p7 : Pos} {Q : Value → Shared → Prop} (hv : FmtOk v) (hl : txt.length ≤ 1000)
    (hld : ∀ {Q : Value → Shared → Prop} {s' : Shared}, s'.heap = s.heap → Q v s' → wpAny (model prog w) A (eval (.Name a q5) env) Q E s')
    (h : ∀ m tk tk', Q (.str m tk) { s with toks := tk' }) :
    wpAny (model prog w) A (eval (.JoinedStr [.Constant (.str txt) j p5, .FormattedValue (.Name a q5) (-1) none p6] p7) env) Q E s := by
  have hs := sizeLine_eq
  obtain ⟨hp, g, d, t, os⟩ := s
  have e0 : ∀ es : List Expr, ∀ e : Expr, evalEach (e :: es) env = eval e env :: evalEach es env := fun es e => by first | rfl | simp [evalEach]
  have e1 : evalEach [] env = [] := by first | rfl | simp [evalEach]
  refine wpAny_JoinedStr ?_
  rw [e0, e0, e1]
  refine wpAny_Constant_str ⟨txt, _, rfl, by rw [len_app]; show Str.empty.length + _ ≤ _; have : Str.empty.length = 0 := rfl; omega, ?_⟩
  refine wpAny_FormattedValue_plain (hld rfl ?_)
  cases v with
  | str y tk =>
    have hy : y.length ≤ 1000 := hv
    have fit : (Str.empty ++ txt ++ y).length ≤ sizeLine := by
      rw [len_app, len_app]
      have : Str.empty.length = 0 := rfl
      omega
    exact wpAny_formatField_str ⟨y, _, rfl, fit, fit, h _ _ _⟩ ⟨y, _, rfl, fit, fit, h _ _ _⟩ (by omega)
  | int i tk =>
    have hi : i.natAbs.log2 < 1920 := hv
    have fi := int_text_fits hi
    have fit : (Str.empty ++ txt ++ Str.ofString (toString i)).length ≤ sizeLine := by
      rw [len_app, len_app]
      have : Str.empty.length = 0 := rfl
      have e := int_text_length_le (k := 1920) (by decide) hi
      rw [ofString_length]
      omega
    exact wpAny_formatField_int hi ⟨_, _, rfl, fit, fit, h _ _ _⟩
  | _ => exact hv.elim
/-- the two last steps: the error's own __init__ is called -/
theorem call_mw {i newId : String} {u e t0 : Addr} {rest : List Value} {h : Heap} {g : Array GenState} {d : Drawn} {t : Nat} {os : OsState} {nm q : Str} {N : Addr} {bs bm bmB : List Value} {hdct : Bool} {sn : List Str} {sub : List Value} {ab : Bool} {col : Option Bool} {dd : Option Addr} {k0 k1 k2 k3 k5 : Option Value} {B : String} {Q : Value → Shared → Prop} (FB : ExcBaseFacts B newId i bmB)
    (hC : h.get? C = some (excClassObj nm q C N bs bm hdct sn sub ab col dd k0 k1 k2 k3 k5 newId)) (he : h.get? e = some (excO C t0)) (hu : h.get? u = some (kxs_mw i e)) (hrest : rest.length ≤ sizeLine)
    (hq : ∀ h' t1, (∀ b o, b ≠ e → h.get? b = some o → h'.get? b = some o) → h'.get? e = some (excO C t1) → h.objs.size ≤ h'.objs.size → Q .none ⟨h', g, d, t, os⟩) :
    wpAny (model prog w) A (call (.ref u) rest) Q E ⟨h, g, d, t, os⟩ := by
  refine wpAny_call (codeAny_of_tree ?_)
  show wpAny _ A.in1 (callAny (.ref u) ⟨rest, []⟩) _ _ _
  simp only [callAny]
  refine wpAny_bind (wpAny_load hu ?_)
  simp only [kxs_mw, show (Value.type "method-wrapper" == Value.type "method" || Value.type "method-wrapper" == Value.type "builtin_function_or_method" || Value.type "method-wrapper" == Value.type "method-wrapper") = true by decide, if_true]
  refine KFB.if_so (by decide) ?_
  refine wpAny_bind (check_bound_init FB.toExcCallFacts hC he rfl ?_)
  refine wpAny_bind (wpAny_pure (wpAny_pure ?_))
  refine ⟨plainId_quiet FB.init.plain _, codeAny_builtin FB.initEntry ?_⟩
  refine exc_init_tree (cls := .ref C) (t0 := t0) (dv := none) (c2 := .none) (c3 := .none) (b4 := .bool false) he hrest fun h' k e1 e2 => ?_
  exact hq h' h.objs.size k e1 (Nat.le_of_lt (Heap.lt_size e2))
theorem int_no {env : Env} (h : env.scope.kind = .function) : interactive env = false := by simp [interactive, h]
abbrev pl1 (o : Expr) (env : Env) : Sem Bool := (do return (← importBound o env).getD true)
theorem he_of {o e : Expr} {name : Str} {apos pos : Pos} {env : Env} (hline : (apos.endLine == pos.line) = true) (hf : methodCallForm ([e].length + ([] : List Keyword).length) (backTo pos (starEach [e] env)) (backToKw pos (keywordEach [] env)) = true := by rfl) : eval (.Call (.Attribute o name apos) [e] [] pos) env = (do
      let ov ← attributeBase o name env (eval o env)
      standAt apos.atName
      let (f, first) ← holding [ov] (getMethod ov name (pl1 o env))
      callWith pos f first (backTo pos (starEach [e] env)) []) := by
  have hpos : methodCallPos true o env apos pos = pure pos := by unfold methodCallPos; simp [hline]
  show (do let ov ← attributeBase o name env (eval o env); standAt apos.atName; methodCall o name apos pos env ov ([e].length + ([] : List Keyword).length) (backTo pos (starEach [e] env)) (backToKw pos (keywordEach [] env))) = _
  unfold methodCall
  rw [hf, hpos]
  rfl
theorem own_init {mb : Str → Option Value} (T : XCls K prog mg C fI a f) {x t0 : Addr} {v : Value} {s : Shared} (X : K.In s.heap) (hlim : s.heap.NoLimit) (G : s.heap.Ns mainGlobals mg) (B : s.heap.Ns builtinsNs mb) (hB : mb "super" = some (.type "super"))
    (hx : s.heap.get? x = some (excO C t0)) (nx : K.lookup x = none) (hv : FmtOk v) (hroom : A.depth < recursionLimit)
    (hq : ∀ h' tk dx t1, XEnd s.heap h' x C dx t1 f v → R (.ok (.ret .none)) { s with heap := h', toks := tk }) :
    codeAny (model prog w) A (.call (.ref fI) ⟨[.ref x, v], []⟩) R s := by
  obtain ⟨name, qual, params, body, scope, oc, ccl, cl, doc, pm, ct, od, cdd, cld, an, osl, ccs, csl, cc, cda, vs, file, tf, ho, hcd, hcda, hvs, hfile, hcell, TX, hbind⟩ := T.fn
  obtain ⟨nm, q, N, bs, bm, sn, sub, ab, col, dd, k0, k1, k2, k3, k5, hC, hbm⟩ := T.cls
  have hcl : clsIn K C = some { name := nm, bases := bs, mro := .ref C :: bm, ns := N, qualname := q, hasDict := true, slotNames := sn, subclasses := sub, abstract := ab, collection := col, hasDel := false } := by unfold clsIn; rw [hC] <;> rfl
  refine ks_codeAny_call_defAt (fd := ksFn name qual params body scope .none .none doc pm an (.ref cda) ct cc) (body := body) hroom (X _ _ ho) rfl hlim (codeRec_of X hcd) rfl (hbind s (.ref x) v) TX.nc (fun y hy => ?_) (fun h₁ hns hk => ?_) TX.co TX.ge TX.kf
  · rcases List.mem_cons.mp hy with rfl | hy
    · exact TX.ls
    · rcases List.mem_cons.mp hy with rfl | hy
      · exact TX.la
      · cases hy
  · obtain ⟨txt, j, p0, p1, p2, p3, p4, p5, p6, p7, q1, q2, q3, q4, q5, rfl, htl, hline⟩ := TX.hb
    have X₁ : K.In h₁ := X.keeps hk
    have hx₁ := hk _ _ hx
    have hC₁ := X₁ _ _ hC
    obtain ⟨ar, har, ean⟩ := Option.map_eq_some_iff.mp TX.hp
    have nas : a ≠ "self" := by simpa using TX.na
    have mself : ∀ y : Str, y = "self" → ([("self", Value.ref x), (a, v)] : List (Str × Value)).reverse.lookup y = some (.ref x) := fun y e => by
      subst e
      have : (("self" : Str) == a) = false := by simpa using Ne.symm nas
      simp [List.lookup, this]
    have ma : ([("self", Value.ref x), (a, v)] : List (Str × Value)).reverse.lookup a = some v := by simp [List.lookup]
    have xC : x ≠ C := fun z => by
      subst z
      rw [hC₁] at hx₁
      cases hx₁
    refine ks_wpAt_execs_cons (ks_wpAt_Expr_any (ks_wpAt_MethodCall (pl := pl1 _ _) ?_ (he_of hline)) (int_no TX.kf))
    refine ks_wpAt_super_base (oc := ⟨ccl, cdd, .fields vs, ccs⟩) (vs := vs) TX.lu TX.lc (by decide) rfl (X₁ _ _ ho) rfl har rfl (X₁ _ _ hcda) rfl hvs hfile T.top ?_
    refine ks_loadName_global TX.kf TX.lu (loadGlobal_builtin (G.keeps hk) T.gS (B.keeps hk) hB ⟨rfl, ?_⟩)
    refine wpAny_loadName_free TX.kf TX.lc rfl ⟨_, X₁ _ _ hcell, rfl⟩ ?_
    refine wpAny_loadName_local TX.kf (by rw [ean]; exact TX.ls) hns (mself _ ean) ?_
    refine ks_wpAny_isType_cls hC₁ rfl ⟨rfl, ?_⟩
    refine ks_wpAny_call_super hC₁ rfl hx₁ rfl (fun c e => by cases e) (looks_mroIn X₁ T.slC) (fun h₂ hso k₂ => ?_)
    have X₂ : K.In h₂ := X₁.keeps k₂
    have hx₂ := k₂ _ _ hx₁
    have I₂ : InstAt h₂ x (excO C t0) C none := ⟨hx₂, rfl, rfl, trivial⟩
    have hsz₂ : h₁.objs.size < h₂.objs.size := Heap.lt_size hso
    have hf2 := T.supC
    unfold ks_superIn at hf2
    rw [hcl, Option.bind_some] at hf2
    refine kxs_getMethod kxs_ValueError hso (looks_opaque X₂ T.any) (l₀ := .ref C :: bm) (fun A Q E s k q => wpAny_bind ((looks_clsIn X₂ hcl) A _ E s k (wpAny_pure q))) rfl X₂ hf2 (I₂.type.andThen (looks_subIn X₂ T.veC)) xC (by decide) ?_
    have k₃ : ∀ b o, h₂.get? b = some o → (h₂.push (kxs_mw "ValueError.__init__" x)).get? b = some o := fun b o e => Heap.get?_push_of_some _ e
    have hu₃ : (h₂.push (kxs_mw "ValueError.__init__" x)).get? h₂.objs.size = some (kxs_mw "ValueError.__init__" x) := Heap.get?_push_at rfl rfl
    refine kxs_callWith (i := "ValueError.__init__") (x := x) rfl ?_
    refine evalArgs_plain ?_
    have hns₃ : (h₂.push (kxs_mw "ValueError.__init__" x)).Ns s.heap.objs.size (fun y => ([("self", Value.ref x), (a, v)] : List (Str × Value)).reverse.lookup y) := (hns.keeps k₂).keeps k₃
    refine spliced_cons ?_
    refine msg_ok (p7 := p7) hv htl (fun {Q s'} e q => wpAny_Name (wpAny_loadName_local TX.kf TX.la (by rw [e]; exact hns₃) ma q) TX.nd) fun m tk tk' => ?_
    refine spliced_nil ?_
    refine ⟨hu₃, ?_⟩
    refine call_mw F.excBase_ValueError (k₃ _ _ (k₂ _ _ hC₁)) (k₃ _ _ hx₂) hu₃ (one_size _) fun h₄ t1 k₄ hx₄ hsz₄ => ?_
    have old₄ : ∀ b o, b ≠ x → s.heap.get? b = some o → h₄.get? b = some o := fun b o hb e => k₄ b o hb (k₃ _ _ (k₂ _ _ (hk b o e)))
    have Lx : s.heap.objs.size ≠ x := Nat.ne_of_gt (Heap.lt_size hx)
    have hns₄ : h₄.Ns s.heap.objs.size (fun y => ([("self", Value.ref x), (a, v)] : List (Str × Value)).reverse.lookup y) := by
      obtain ⟨oL, es, ep, hL, r⟩ := hns₃
      exact ⟨oL, es, ep, k₄ _ _ Lx hL, r⟩
    have X₄ : K.In h₄ := fun b o e => k₄ b o (fun z => by rw [z, nx] at e; cases e) (k₃ _ _ (X₂ b o e))
    show wpAt _ _ _ (execs _ _) _ _ _
    refine wpAt_of_wpAny (wpAny_execs_cons (plainObj_wpAny_Assign_Attribute ?_))
    refine wpAny_Name (wpAny_loadName_local TX.kf TX.la hns₄ ma ?_) TX.nd
    refine wpAny_Name (wpAny_loadName_local TX.kf TX.ls hns₄ (mself _ rfl) ?_) (by decide)
    refine set_plain X₄ (ox := excO C t1) (od := none) ⟨hx₄, rfl, rfl, trivial⟩ T.sa ?_
    refine exc_osa X₄ hx₄ hcl (show refsVE (.ref C :: bm) = true from hbm) rfl T.noN (fun h₅ tk₅ dx k₅ dn dne hx₅ hn₅ => ?_)
    show wpAny _ _ (execs _ _) _ _ _
    have z1 : s.heap.objs.size < h₁.objs.size := hns.lt
    have z2 : h₂.objs.size < (h₂.push (kxs_mw "ValueError.__init__" x)).objs.size := Heap.lt_size hu₃
    exact wpAny_execs_nil (hq h₅ tk₅ dx t1 ⟨fun b o hb e => k₅ b o hb (old₄ b o hb e), hx₅, Nat.le_of_lt (Nat.lt_of_lt_of_le (Nat.lt_trans z1 (Nat.lt_trans hsz₂ z2)) (Nat.le_trans hsz₄ dn)), dne, hn₅⟩)
theorem own_made {mb : Str → Option Value} (T : XCls K prog mg C fI a f) {v : Value} {s : Shared} (X : K.In s.heap) (hlim : s.heap.NoLimit) (G : s.heap.Ns mainGlobals mg) (B : s.heap.Ns builtinsNs mb) (hB : mb "super" = some (.type "super")) (hv : FmtOk v) (hroom : A.depth + 1 < recursionLimit)
    (hq : ∀ h' tk e d, XMade s.heap h' e C d f v → R (.ok (.ret (.ref e))) { s with heap := h', toks := tk }) :
    codeAny (model prog w) A (.call (.ref C) ⟨[v], []⟩) R s := by
  obtain ⟨nm, q, N, bs, bm, sn, sub, ab, col, dd, k0, k1, k2, k3, k5, hC, hbm⟩ := T.cls
  obtain ⟨hp, g, dr, tk, os⟩ := s
  have k : ∀ b o, hp.get? b = some o → ((hp.push (kdv_tup [v])).push (excO C hp.objs.size)).get? b = some o := fun b o e => Heap.get?_push_of_some _ (Heap.get?_push_of_some _ e)
  have hget : ((hp.push (kdv_tup [v])).push (excO C hp.objs.size)).get? (hp.objs.size + 1) = some (excO C hp.objs.size) := by heap_get
  have hnx : K.lookup (hp.objs.size + 1) = none := by
    cases e : K.lookup (hp.objs.size + 1) with
    | none => rfl
    | some o =>
      have z : hp.get? (hp.objs.size + 1) = some o := X _ _ e
      exact absurd (Nat.lt_of_succ_lt (Heap.lt_size z)) (Nat.lt_irrefl _)
  refine call_own F.excBase_ValueError (fun X => refsVE_contains X bm hbm) (X _ _ hC) (looks_findIn X T.iC) (fun self => bind_fn X self T.tC) (one_size v) ?_
  refine own_init (s := ⟨(hp.push (kdv_tup [v])).push (excO C hp.objs.size), g, dr, tk, os⟩) T (X.keeps k) (hlim.keeps k) (G.keeps k) (B.keeps k) hB hget hnx hv ?_ fun h' tk' dx t1 ⟨k', hx, dn, dne, hns⟩ => ?_
  · show A.depth + 1 < recursionLimit
    exact hroom
  · have old : ∀ b o, hp.get? b = some o → h'.get? b = some o := fun b o e => k' b o (Nat.ne_of_lt (Nat.lt_succ_of_lt (Heap.lt_size e))) (k b o e)
    have z : hp.objs.size + 1 + 1 ≤ dx := by
      first
        | (simpa only [Heap.size_push] using dn)
        | exact dn
        | (have q := dn; rw [Heap.size_push, Heap.size_push] at q; exact q)
    exact ⟨rfl, hq h' tk' (hp.objs.size + 1) dx ⟨old, Nat.le_succ _, ⟨_, _, hx, rfl, rfl, rfl, rfl⟩, Nat.le_trans (Nat.le_trans (Nat.le_succ _) (Nat.le_succ _)) z, dne, hns⟩⟩
end
end TrX
end PySem

namespace L2
open PySem PySem.Spec PyProof.Rows
theorem relO_one {f : Str} {v : V} {v' : Value} (r : RelV v v') (g : Str) : RelO (List.lookup g [(f, v)]) (if g = f then some v' else none) := by
  by_cases hw : g = f
  · subst hw
    rw [if_pos rfl]
    have q : List.lookup g [(g, v)] = some v := by simp [List.lookup]
    rw [q]
    exact r
  · rw [if_neg hw]
    have qw : (g == f) = false := by simpa using hw
    have q2 : List.lookup g [(f, v)] = none := by simp [List.lookup, qw]
    rw [q2]
    trivial
def FmtV : V → Prop
  | .str y => y.length ≤ 1000
  | .int i => i.natAbs.log2 < 1920
  | _ => False
theorem FmtV.ok {v : V} {u : Value} (r : RelV v u) (h : FmtV v) : PySem.TrX.FmtOk u := by
  cases v with
  | str y => obtain ⟨t, rfl⟩ := r; exact h
  | int i => obtain ⟨t, rfl⟩ := r; exact h
  | _ => exact h.elim
section
variable {X : Cx} {C fI : Addr} {a f : Str}
/-- C(e), an own error that keeps its argument as f -/
def tMkX (C : Addr) (f : Str) (ta : TA) : St → Hp → XK → Prop := fun σ H Q => ta σ H fun vs H1 => ∃ v, vs = [v] ∧ FmtV v ∧ ∀ d, H1 d = none → Q (.ref C) (some d) (upd H1 d (.xd [(f, v)]))
theorem pmk_ownx {x : Str} {e : Expr} {ta : TA} {p pos : Pos} {k : Nat} (T : PySem.TrX.XCls X.K X.prog X.mg C fI a f) (hr : Room k X.A) (hk1 : 1 ≤ k) (ha : PA X [e] ta) (hg : Gl X x) (hm : X.mg x = some (.ref C)) (hdb : (x == ("__debug__" : Str)) = false)
    (he : starEach (e :: []) X.env = (false, eval e X.env) :: starEach [] X.env) (hpl : (backTo pos (starEach [] X.env)).any (·.1) = false := by rfl) :
    PMk X (.Call (.Name x p) [e] [] pos) (tMkX C f ta) := by
  intro pins s σ H Q I h
  refine wpAny_Call_Name_kw (ld_glob I hg hm ?_ hdb)
  refine PySem.W.callWith_K (h₀ := X.base) I.ok.mod.kin T.kC (thn (ha.run pos pins s σ H _ I h) fun us s1 hh => ?_) he hpl
  obtain ⟨vs, H1, I1, r1, v, ev, fv, q1⟩ := hh
  subst ev
  refine ⟨I1.kIn, ?_⟩
  cases r1 with
  | cons rv rn =>
    rename_i v' us'
    cases rn
    show wpAny _ _ (call (.ref C) [v']) _ _ _
    have hlim := I1.nolimit
    obtain ⟨mb, hb1, hb2⟩ := I1.mod.blt
    have hG : s1.heap.Ns mainGlobals X.mg := I1.mod.glob.keeps I1.bk
    have hBl : s1.heap.Ns builtinsNs mb := hb1.keeps I1.bk
    have hsup : mb "super" = some (.type "super") := (hb2 "super" (by decide)).trans (by decide +kernel)
    obtain ⟨hp, g, dr, tk, os⟩ := s1
    refine wpAny_call (PySem.TrX.own_made T I1.kIn hlim hG hBl hsup (fv.ok rv) (by have := hr.dp; omega) fun h' tk' e d M => ?_)
    show MkP X pins σ Q (.ref e) ⟨h', g, dr, tk', os⟩
    obtain ⟨oe, fvs, hoe, hc, hd, hdat, h1⟩ := M.obj
    have hns := M.ns
    obtain ⟨G', g1, g2⟩ := restrict h' fun b => decide (b ≠ e)
    have gk : ∀ b, b ≠ e → G'.get? b = h'.get? b := fun b hb => g1 b (decide_eq_true hb)
    have ge : G'.get? e = none := g2 e (by simp)
    have old : ∀ b o, hp.get? b = some o → G'.get? b = some o := fun b o q => (gk b (Nat.ne_of_lt (Nat.lt_of_lt_of_le (Heap.lt_size q) M.new))).trans (M.keep b o q)
    have ob : ObjOk X.prog X.w (upd H1 d (.xd [(f, v)])) G' d (.xd [(f, v)]) :=
      ⟨_, hns.at (fun o q => (gk d M.dne).trans q), fun g => relO_one rv g⟩
    have J : Inv X pins σ (upd H1 d (.xd [(f, v)])) ⟨G', g, dr, tk', os⟩ := I1.laid (t' := tk') old M.dbig ob
    refine ⟨e, oe, fvs, ⟨G', g, dr, tk', os⟩, _, .ref C, some d, rfl, J, fun b o q => ?_, ge, hoe, ⟨hc, hd⟩, hdat, h1, ?_, rfl, I1.bare, raises_own T.exC T.tyC, q1 d (I1.hok.fresh M.dbig)⟩
    · by_cases hb : b = e
      · have q' : G'.get? b = some o := q
        rw [hb, ge] at q'; cases q'
      · exact (gk b hb).symm.trans q
    · rw [upd_ne (Ne.symm M.dne)]
      exact I1.hok.fresh M.new
/-- e.f, e the exception that the suite holds (at a; its class cls, its dict d) -/
theorem pe_xfld {at_ : Addr} {oe : Obj} {pn : List (Addr × Obj)} {C : Addr} {fs : List (Str × V)} {v : V} {dd : Addr} {f : Str} {e : Expr} {pos : Pos} {te : TE}
    (ga : PySem.W.findIn X.K (.ref C) "__getattribute__" = some (some (.builtin "BaseException.__getattribute__"))) (gg : PySem.W.findIn X.K (.ref C) "__getattr__" = some none) (exC : PySem.W.subIn X.K (.ref C) (.type "BaseException") = some true) (hdC : PySem.W.hasDictIn X.K C = true) (noN : PySem.W.findIn X.K (.ref C) f = some none)
    (hz : Zc (.ref C) (some dd) oe) (hf : ∃ vs, oe.data = .fields vs) (he : PE (X.suite at_ ((at_, oe) :: pn)) e te)
    (hb : attributeBase e f X.env (eval e X.env) = eval e X.env) (hl : fs.lookup f = some v) :
    PE (X.suite at_ ((at_, oe) :: pn)) (.Attribute e f pos) (fun σ H Q => te σ H fun x H1 => x = .ref at_ ∧ H1 dd = some (.xd fs) ∧ Q v H1) := by
  refine ⟨fun pins s σ H Q I h => ?_⟩
  refine attr_of hb (thn (he.run pins s σ H _ I h) fun u s1 hh => ?_)
  obtain ⟨x, H1, I1, rx, ex, ea, q⟩ := hh
  subst ex
  obtain rfl : u = Value.ref at_ := rx
  obtain ⟨ha, _⟩ := I1.pin (at_, oe) (List.mem_append_left _ List.mem_cons_self)
  obtain ⟨vs, hd⟩ := hf
  have hx : ObjOk X.prog X.w H1 s1.heap dd (.xd fs) := I1.hok dd _ ea
  obtain ⟨mA, hns, hr⟩ := hx
  obtain ⟨od, ho, hl'⟩ := lookIn_ns hns
  obtain ⟨u, hu, ru⟩ := RelO.some_of (v := v) (o := mA f) (by rw [← hl]; exact hr f)
  have J : PySem.W.InstAt s1.heap at_ oe C (some od) := ⟨ha, hz.1, by unfold PySem.W.notCls; rw [hd] <;> rfl, by rw [hz.2]; exact ho⟩
  exact HandSPX.exc_get I1.kIn J ga gg exC (PySem.W.findObj_own hdC noN rfl (by rw [hl', hu])) (handed_of ru) ⟨v, H1, I1.tok _, ru, q⟩
end
end L2

set_option maxHeartbeats 4000000
namespace Tr
open PySem PySem.Spec PyProof.Rows L2

/-! ### errors of own classes over ValueError -/
/-- the classes of errors by number, each with the field that its __init__ stores; which is below which -/
structure XSig where
  cls : List (Nat × Option Nat) := []
  sub : Nat → Nat → Bool := fun _ _ => false
structure XKOk (K : PySem.W.Frag) (T : Tab) (s : XSig) : Prop where
  hn : PySem.W.specialIn K (.builtin "object.__class__") "__get__" = some (some (.builtin "getset_descriptor.__get__"))
  htk : PySem.W.takesIn K (.builtin "object.__class__") = some true
  ga : ∀ q ∈ s.cls, PySem.W.findIn K (.ref (T.cad q.1)) "__getattribute__" = some (some (.builtin "BaseException.__getattribute__"))
  gg : ∀ q ∈ s.cls, PySem.W.findIn K (.ref (T.cad q.1)) "__getattr__" = some none
  exC : ∀ q ∈ s.cls, PySem.W.subIn K (.ref (T.cad q.1)) (.type "BaseException") = some true
  hdC : ∀ q ∈ s.cls, PySem.W.hasDictIn K (T.cad q.1) = true
  ha : ∀ q ∈ s.cls, PySem.W.findIn K (.ref (T.cad q.1)) "__class__" = some (some (.builtin "object.__class__"))
  hm : ∀ q ∈ s.cls, PySem.W.mroIn K (T.cad q.1) (.type "object") = some true
  ty : ∀ q ∈ s.cls, PySem.W.typeIn K (.ref (T.cad q.1)) = some (.type "type")
  noN : ∀ q ∈ s.cls, ∀ f, q.2 = some f → PySem.W.findIn K (.ref (T.cad q.1)) (T.nm f) = some none
  sub : ∀ q ∈ s.cls, ∀ r ∈ s.cls, PySem.W.subIn K (.ref (T.cad q.1)) (.ref (T.cad r.1)) = some (s.sub q.1 r.1)
  kit : ∀ q ∈ s.cls, ∀ r ∈ s.cls, PySem.W.kitOne K (.ref (T.cad q.1)) (.ref (T.cad r.1)) = some (s.sub q.1 r.1)
  kitV : ∀ q ∈ s.cls, PySem.W.kitOne K (.ref (T.cad q.1)) (.type "ValueError") = some true
def XSig.has (s : XSig) (k : Nat) : Bool := s.cls.any fun q => q.1 == k
theorem XSig.of_has {s : XSig} {k : Nat} (h : s.has k = true) : ∃ q ∈ s.cls, q.1 = k := by
  obtain ⟨q, h1, h2⟩ := List.any_eq_true.mp h
  exact ⟨q, h1, by simpa using h2⟩

/-- what may stand in the suite of an except clause: of the error that it holds -/
inductive IX where
  | fld (n : Nat) | isC (k : Nat) | isV | cst (d : D) | and (a b : IX) | or (a b : IX) | not (a : IX) | eq (a b : IX) | ne (a b : IX)
inductive IXS where
  | ret (e : IX) | ifRet (t e : IX)
def toV : D → Option V
  | .non => some .non | .bl b => some (.bl b) | .int i => some (.int i) | .str y => some (.str y) | _ => none
def flatO : Option D → Option D
  | some (.str y) => some (.str y) | some (.int i) => some (.int i) | _ => none
def valX (s : XSig) (x : Exc) : IX → Option D
  | .fld n => if s.cls.any (fun q => q.1 == x.c && q.2 == some n) then flatO (look n x.ns x.vs) else none
  | .isC k => if s.has x.c && s.has k then some (.bl (s.sub x.c k)) else none
  | .isV => if s.has x.c then some (.bl true) else none
  | .cst d => if (toV d).isSome then some d else none
  | .and a b => match valX s x a with | some (.bl true) => (match valX s x b with | some (.bl z) => some (.bl z) | _ => none) | some (.bl false) => some (.bl false) | _ => none
  | .or a b => match valX s x a with | some (.bl false) => (match valX s x b with | some (.bl z) => some (.bl z) | _ => none) | some (.bl true) => some (.bl true) | _ => none
  | .not a => match valX s x a with | some (.bl z) => some (.bl (!z)) | _ => none
  | .eq a b => match valX s x a, valX s x b with | some (.str y), some (.str z) => some (.bl (y == z)) | _, _ => none
  | .ne a b => match valX s x a, valX s x b with | some (.str y), some (.str z) => some (.bl (y != z)) | _, _ => none
def runX (s : XSig) (x : Exc) : List IXS → Option (Option D)
  | [] => some none
  | .ret e :: _ => (valX s x e).map some
  | .ifRet t e :: r => match valX s x t with | some (.bl true) => (valX s x e).map some | some (.bl false) => runX s x r | _ => none
/-- the error lies so -/
def XAt (c : Ct) (a : Addr) (i : Nat) (x : Exc) (cls : Value) (dx : Option Addr) (σ : L2.St) (H : Hp) : Prop := σ[i]? = some (some (.ref a)) ∧ ∃ F, RX c.K c.T F H x cls dx
/-- e's value, where the error lies so -/
def tX (s : XSig) (x : Exc) (P : L2.St → Hp → Prop) (e : IX) : TE := fun σ H Q => P σ H ∧ ∃ d v, valX s x e = some d ∧ toV d = some v ∧ Q v H
section
variable {X : Cx} {P : L2.St → Hp → Prop} {a b : Expr} {pos : Pos} {s : XSig} {x : Exc} {ea eb : IX}
theorem tx_bl {e : IX} {σ : L2.St} {H : Hp} {Q : VK} {z : Bool} (hp : P σ H) (h : valX s x e = some (.bl z)) (q : Q (.bl z) H) : tX s x P e σ H Q := ⟨hp, _, _, h, rfl, q⟩
theorem lx_and {rest : List Expr} (ha : PE X a (tX s x P ea)) (hb : PE X (.BoolOp .And (b :: rest) pos) (tX s x P eb)) : PE X (.BoolOp .And (a :: b :: rest) pos) (tX s x P (.and ea eb)) := by
  refine pe_weak (pe_and ha hb) fun σ H Q ⟨hp, d, v, h1, h2, q⟩ => ?_
  unfold valX at h1
  split at h1
  · rename_i e1
    refine tx_bl hp e1 ⟨true, rfl, ?_⟩
    split at h1
    · rename_i z e2
      cases h1
      cases h2
      exact tx_bl hp e2 q
    · cases h1
  · rename_i e1
    cases h1
    cases h2
    exact tx_bl hp e1 ⟨false, rfl, q⟩
  · cases h1
theorem lx_or {rest : List Expr} (ha : PE X a (tX s x P ea)) (hb : PE X (.BoolOp .Or (b :: rest) pos) (tX s x P eb)) : PE X (.BoolOp .Or (a :: b :: rest) pos) (tX s x P (.or ea eb)) := by
  refine pe_weak (pe_or ha hb) fun σ H Q ⟨hp, d, v, h1, h2, q⟩ => ?_
  unfold valX at h1
  split at h1
  · rename_i e1
    refine tx_bl hp e1 ⟨false, rfl, ?_⟩
    split at h1
    · rename_i z e2
      cases h1
      cases h2
      exact tx_bl hp e2 q
    · cases h1
  · rename_i e1
    cases h1
    cases h2
    exact tx_bl hp e1 ⟨true, rfl, q⟩
  · cases h1
theorem lx_not (ha : PE X a (tX s x P ea)) : PE X (.UnaryOp .Not a pos) (tX s x P (.not ea)) := by
  refine pe_weak (pe_not ha) fun σ H Q ⟨hp, d, v, h1, h2, q⟩ => ?_
  unfold valX at h1
  split at h1
  · rename_i z e1
    cases h1
    cases h2
    exact tx_bl hp e1 ⟨z, rfl, q⟩
  · cases h1
theorem lx_eq (hu : X.A.units + 64 < cLine) (ha : PE X a (tX s x P ea)) (hb : PE X b (tX s x P eb)) : PE X (.Compare a [.Eq] [b] pos) (tX s x P (.eq ea eb)) := by
  refine pe_weak (pe_cmpR (op_eqA hu) ha hb (nobehind b (by decide) (by decide))) fun σ H Q ⟨hp, d, v, h1, h2, q⟩ => ?_
  unfold valX at h1
  split at h1
  · rename_i y z e1 e2
    cases h1
    cases h2
    refine ⟨hp, _, _, e1, rfl, hp, _, _, e2, rfl, .inl ⟨rfl, ?_⟩⟩
    rw [dec_str]
    exact q
  · cases h1
theorem lx_ne (hu : X.A.units + 64 < cLine) (ha : PE X a (tX s x P ea)) (hb : PE X b (tX s x P eb)) : PE X (.Compare a [.NotEq] [b] pos) (tX s x P (.ne ea eb)) := by
  refine pe_weak (pe_cmpR (op_neA hu) ha hb (nobehind b (by decide) (by decide))) fun σ H Q ⟨hp, d, v, h1, h2, q⟩ => ?_
  unfold valX at h1
  split at h1
  · rename_i y z e1 e2
    cases h1
    cases h2
    refine ⟨hp, _, _, e1, rfl, hp, _, _, e2, rfl, .inl ⟨rfl, ?_⟩⟩
    rw [dec_str]
    exact q
  · cases h1
theorem lx_cst {d : D} (ha : ∀ v, toV d = some v → PE X a (tC v)) (hn : PE X a (fun _ _ _ => False)) : PE X a (tX s x P (.cst d)) := by
  cases e : toV d with
  | none =>
    refine pe_weak hn fun σ H Q ⟨hp, d', v, h1, h2, q⟩ => ?_
    unfold valX at h1
    rw [e] at h1
    cases h1
  | some v =>
    refine pe_weak (ha v e) fun σ H Q ⟨hp, d', v', h1, h2, q⟩ => ?_
    unfold valX at h1
    rw [e] at h1
    cases h1
    rw [e] at h2
    cases h2
    exact q
end

section
variable {X : Cx} {c : Ct} {s : XSig} {x : Exc} {a : Addr} {oe : Obj} {cls : Value} {dx : Option Addr} {pn : List (Addr × Obj)} {i : Nat}
theorem flatO_of {o : Option D} {d : D} (h : flatO o = some d) : o = some d ∧ ((∃ y, d = .str y) ∨ ∃ z, d = .int z) := by
  unfold flatO at h
  split at h
  · cases h; exact ⟨rfl, .inl ⟨_, rfl⟩⟩
  · cases h; exact ⟨rfl, .inr ⟨_, rfl⟩⟩
  · cases h
theorem look_zip {K : PySem.W.Frag} {T : Tab} {F : Hp} (inj : ∀ i j, T.nm i = T.nm j → i = j) {n : Nat} {d : D} : ∀ {ns : List Nat} {ds : List D} {vs : List V}, Rs K T F ds vs → look n ns ds = some d → ∃ v, ((ns.map T.nm).zip vs).lookup (T.nm n) = some v ∧ R K T F d v
  | [], _, _, _, h => by unfold look at h; cases h
  | m :: ns, [], _, _, h => by unfold look at h; cases h
  | m :: ns, d0 :: ds, vs, r, h => by
    obtain ⟨v, t, rfl, r1, r2⟩ := r
    unfold look at h
    split at h
    · rename_i e
      subst e
      cases h
      exact ⟨v, by simp [List.lookup], r1⟩
    · rename_i e
      obtain ⟨w, h1, h2⟩ := look_zip inj r2 h
      refine ⟨w, ?_, h2⟩
      have : (T.nm n == T.nm m) = false := by
        rw [beq_eq_false_iff_ne]
        intro z
        exact e (inj _ _ z).symm
      simp only [List.map_cons, List.zip_cons_cons, List.lookup, this]
      exact h1
theorem lx_fld {n : Nat} {nm : Str} {p1 pos : Pos} (hK : X.K = c.K) (inj : ∀ i j, c.T.nm i = c.T.nm j → i = j) (ok : XKOk c.K c.T s) (hN : X.N[i]? = some nm) (hv : Vis X.env.scope nm) (hd : (nm == ("__debug__" : Str)) = false) (hcd : (nm == ("__classdict__" : Str)) = false)
    (hz : Zc cls dx oe) (hf : ∃ vs, oe.data = .fields vs) (hb : attributeBase (.Name nm p1) (c.T.nm n) X.env (eval (.Name nm p1) X.env) = eval (.Name nm p1) X.env) :
    PE (X.suite a ((a, oe) :: pn)) (.Attribute (.Name nm p1) (c.T.nm n) pos) (tX s x (XAt c a i x cls dx) (.fld n)) := by
  refine ⟨fun pins sh σ H Q I ⟨hp, d, v, h1, h2, q⟩ => ?_⟩
  unfold valX at h1
  split at h1
  · rename_i ht
    obtain ⟨p, hp1, hp2⟩ := List.any_eq_true.mp ht
    simp only [Bool.and_eq_true, beq_iff_eq] at hp2
    obtain ⟨e1, e2⟩ := hp2
    obtain ⟨e3, hfl⟩ := flatO_of h1
    obtain ⟨hs, F, ec, hx⟩ := hp
    rcases hx with ⟨_, en, ev⟩ | ⟨dd, vs, ed, eh, el, rr⟩
    · rw [en] at e3
      unfold look at e3
      cases e3
    obtain ⟨w, hw, rw_⟩ := look_zip inj rr e3
    have ew : w = v := by
      rcases hfl with ⟨y, rfl⟩ | ⟨z, rfl⟩
      · cases h2; exact rw_
      · cases h2; exact rw_
    subst ew
    subst ec ed
    rw [← e1] at hz
    refine (pe_xfld (C := c.T.cad p.1) (fs := (x.ns.map c.T.nm).zip vs) (v := w) (dd := dd) (by rw [hK]; exact ok.ga p hp1) (by rw [hK]; exact ok.gg p hp1) (by rw [hK]; exact ok.exC p hp1) (by rw [hK]; exact ok.hdC p hp1) (by rw [hK]; exact ok.noN p hp1 n e2) hz hf
      (pe_var (X := X.suite a ((a, oe) :: pn)) (i := i) hN hv hd hcd) hb hw).run pins sh σ H Q I ⟨.ref a, hs, rfl, eh, q⟩
  · cases h1
/-- isinstance(e, c), e the exception that the suite holds -/
def rIsX (K : PySem.W.Frag) (D a : Addr) (dx : Option Addr) : List V → Hp → VK → Prop := fun xs H Q => ∃ (c : V) (cv : Value) (b : Bool), xs = [.ref a, c] ∧ (∀ u, RelV c u → u = cv) ∧ PySem.W.kitOne K (.ref D) cv = some b ∧ (∀ dd, dx = some dd → ∃ fs, H dd = some (.xd fs)) ∧ Q (.bl b) H
theorem call_isX {D : Addr} (ok : XKOk X.K c.T s) {q0 : Nat × Option Nat} (hq0 : q0 ∈ s.cls) (eD : c.T.cad q0.1 = D) (hz : Zc (.ref D) dx oe) (hf : ∃ vs, oe.data = .fields vs) : CallR (X.suite a ((a, oe) :: pn)) (.builtin "isinstance") (rIsX X.K D a dx) := by
  subst eD
  intro pins s σ H xs us Q I r h
  obtain ⟨cc, cv, b, rfl, hcv, e, hdx, q⟩ := h
  cases r with
  | cons rx rr =>
    cases rr with
    | cons rt rr =>
      cases rr
      cases rx
      have ec := hcv _ rt
      subst ec
      obtain ⟨hget, _⟩ := I.pin (a, oe) (List.mem_append.mpr (.inl List.mem_cons_self))
      obtain ⟨vs, hv⟩ := hf
      have J : ∃ od, PySem.W.InstAt s.heap a oe (c.T.cad q0.1) od := by
        cases dx with
        | none => exact ⟨none, hget, hz.1, by unfold PySem.W.notCls; rw [hv] <;> rfl, by rw [hz.2]; trivial⟩
        | some dd =>
          obtain ⟨fs, ea⟩ := hdx dd rfl
          have hx : ObjOk X.prog X.w H s.heap dd (.xd fs) := I.hok dd _ ea
          obtain ⟨mA, hns, hr⟩ := hx
          obtain ⟨od, ho, hl'⟩ := lookIn_ns hns
          exact ⟨some od, hget, hz.1, by unfold PySem.W.notCls; rw [hv] <;> rfl, by rw [hz.2]; exact ho⟩
      obtain ⟨od, J⟩ := J
      have hcl : (PySem.W.clsIn X.K (c.T.cad q0.1)).isSome = true := by
        obtain ⟨cd, hc, _⟩ := PySem.W.any_some (ok.hdC q0 hq0)
        rw [hc]; rfl
      exact PySem.W.kia_one (PySem.W.kitx_exc hcl (ok.ga q0 hq0) (ok.gg q0 hq0) (ok.exC q0 hq0) (ok.ha q0 hq0) ok.hn ok.htk (ok.hm q0 hq0)) I.kIn J e (fun z => nomatch z) fun tk => ⟨.bl b, H, I.kept (t' := tk) fun _ _ z => z, rfl, q⟩
theorem lx_is {nm fn y : Str} {p1 p2 p3 pos : Pos} {cv : V} {e : IX} (hK : X.K = c.K) (ok : XKOk c.K c.T s) (hN : X.N[i]? = some nm) (hv : Vis X.env.scope nm) (hd : (nm == ("__debug__" : Str)) = false) (hcd : (nm == ("__classdict__" : Str)) = false)
    (hz : Zc cls dx oe) (hf : ∃ vs, oe.data = .fields vs) (hx : fn = "isinstance") (hg : Gl X fn) (hm : X.mg fn = none)
    (hy : PE (X.suite a ((a, oe) :: pn)) (.Name y p2) (tC cv)) (cv1 : ∃ u, ∀ w, RelV cv w → w = u)
    (hval : ∀ d, valX s x e = some d → ∃ q0 ∈ s.cls, q0.1 = x.c ∧ ∃ b, d = .bl b ∧ ∀ u, (∀ w, RelV cv w → w = u) → PySem.W.kitOne c.K (.ref (c.T.cad q0.1)) u = some b) :
    PE (X.suite a ((a, oe) :: pn)) (.Call (.Name fn p1) [.Name nm p3, .Name y p2] [] pos) (tX s x (XAt c a i x cls dx) e) := by
  subst hx
  refine ⟨fun pins sh σ H Q I ⟨hp, d, v, h1, h2, q⟩ => ?_⟩
  obtain ⟨q0, hq0, eq0, b, rfl, hkit⟩ := hval d h1
  cases h2
  obtain ⟨hs, F, ec, hx⟩ := hp
  subst ec
  rw [← eq0] at hz
  obtain ⟨u, hu⟩ := cv1
  have hdx : ∀ dd, dx = some dd → ∃ fs, H dd = some (.xd fs) := fun dd e => by
    rcases hx with ⟨e0, _⟩ | ⟨d0, vs, e0, eh, _⟩
    · rw [e0] at e; cases e
    · rw [e0] at e; cases e; exact ⟨_, eh⟩
  exact (pe_callB (X := X.suite a ((a, oe) :: pn)) (call_isX (c := c) (by rw [hK]; exact ok) hq0 rfl hz hf) hg hm (by decide +kernel) (pa_cons (pe_var (X := X.suite a ((a, oe) :: pn)) (i := i) hN hv hd hcd) (pa_cons hy pa_nil rfl) rfl) (by decide) (by decide) rfl rfl).run pins sh σ H Q I
    ⟨.ref a, hs, cv, u, b, rfl, hu, by rw [show (X.suite a ((a, oe) :: pn)).K = c.K from hK]; exact hkit u hu, hdx, q⟩
end
end Tr

namespace Tr
open PySem PySem.Spec PyProof.Rows L2

/-! ### fields of self as targets: stored anew or over -/
def putNs (n : Nat) : List Nat → List Nat
  | [] => [n]
  | m :: r => if m = n then m :: r else m :: putNs n r
def putDs {α : Type} (n : Nat) (d : α) : List Nat → List α → List α
  | [], _ => [d]
  | m :: r, e :: es => if m = n then d :: es else e :: putDs n d r es
  | _ :: _, [] => [d]
theorem putF_zip {T : Tab} (inj : ∀ i j, T.nm i = T.nm j → i = j) {n : Nat} {v : V} : ∀ {ns : List Nat} {vs : List V}, ns.length = vs.length → putF (T.nm n) v ((ns.map T.nm).zip vs) = ((putNs n ns).map T.nm).zip (putDs n v ns vs)
  | [], [], _ => rfl
  | m :: ns, x :: vs, h => by
    simp only [List.map_cons, List.zip_cons_cons, putF, putNs, putDs]
    by_cases e : m = n
    · subst e
      simp
    · have e' : ¬ T.nm m = T.nm n := fun z => e (inj _ _ z)
      rw [if_neg e', if_neg e, if_neg e, putF_zip inj (by simpa using h)]
      rfl
theorem put_len {α : Type} {n : Nat} {d : α} : ∀ {ns : List Nat} {es : List α}, ns.length = es.length → (putNs n ns).length = (putDs n d ns es).length
  | [], [], _ => rfl
  | m :: ns, x :: vs, h => by
    simp only [putNs, putDs]
    by_cases e : m = n
    · rw [if_pos e, if_pos e]; exact h
    · rw [if_neg e, if_neg e]; simpa using put_len (n := n) (d := d) (show ns.length = vs.length by simpa using h)
theorem put_rs {K : PySem.W.Frag} {T : Tab} {F : Hp} {n : Nat} {d : D} {v : V} (r : R K T F d v) : ∀ {ns : List Nat} {ds : List D} {vs : List V}, ns.length = ds.length → Rs K T F ds vs → Rs K T F (putDs n d ns ds) (putDs n v ns vs)
  | [], [], _, _, q => by cases q; exact Rs.one r
  | m :: ns, e :: ds, _, h, ⟨w, t, rfl, r1, r2⟩ => by
    simp only [putDs]
    by_cases z : m = n
    · rw [if_pos z, if_pos z]; exact ⟨v, t, rfl, r, r2⟩
    · rw [if_neg z, if_neg z]; exact ⟨w, _, rfl, r1, put_rs r (by simpa using h) r2⟩
def ownI' (o : Option Slot) (P : Nat → List Nat → List D → Prop) : Prop := match o with | some (.own (.ins k ns vs)) => P k ns vs | _ => False
theorem ownI'_of {o : Option Slot} {P : Nat → List Nat → List D → Prop} (h : ownI' o P) : ∃ k ns ds, o = some (.own (.ins k ns ds)) ∧ P k ns ds := by
  unfold ownI' at h
  split at h
  · exact ⟨_, _, _, rfl, h⟩
  · exact h.elim
/-- stores of several things: (true, n): the field n of self, (false, i): the name i -/
def stF (s : Sig) : List (Bool × Nat) → List D → List Slot → (List Slot → Prop) → Prop
  | [], [], ρ, P => P ρ
  | (false, i) :: ts, d :: ds, ρ, P => stF s ts ds (ρ.set i (.val d)) P
  | (true, n) :: ts, d :: ds, ρ, P => ownI' ρ[0]? fun k ns es => k < s.fld.length ∧ (s.fld.getD k []).contains n = true ∧ ns.length < 900 ∧ ns.length = es.length ∧ stF s ts ds (ρ.set 0 (.own (.ins k (putNs n ns) (putDs n d ns es)))) P
  | _, _, _, _ => False
section
variable {c : Ct} {X : Cx} {s : Sig}
theorem pg_attr {o : Expr} {f : Str} {pos : Pos} {to : TE} (ho : PE X o to) : PG X (.Attribute o f pos) (fun v σ H Q => to σ H fun x H1 => ∃ a C dx fs, x = .ref a ∧ H1 a = some (.ins C dx fs) ∧ Cls X.K C ∧ NoAttr X.K C f ∧ fs.length < 1000 ∧ Q σ (upd H1 a (.ins C dx (putF f v fs)))) := by
  refine ⟨fun pins s σ H v u Q I r h => ?_⟩
  rw [assign_Attribute]
  refine wpAny_bind (wpAny_holding (thn (ho.run pins s σ H _ I h) fun ov s1 ⟨x, H1, I1, r1, a, C, dx, fs, ex, ea, cl, na, hl, q⟩ => ?_))
  subst ex
  obtain rfl : ov = Value.ref a := r1
  exact wpAny_bind (wpAny_standAt (wpAny_bind (wpAny_holding (setattr_ok I1 ea cl na hl r fun s3 I3 => wpAny_release ⟨σ, _, I3, q⟩))))
def liftF1 (c : Ct) (g : D → List Slot → (List Slot → Prop) → Prop) : TG := fun v σ H Q => ∃ F ρ d P, c.S F H σ ρ ∧ R c.K c.T F d v ∧ g d ρ P ∧ ∀ ρ' σ' F' H', P ρ' → c.S F' H' σ' ρ' → Same F F' → Q σ' H'
def liftFs (c : Ct) (g : List D → List Slot → (List Slot → Prop) → Prop) : TGs := fun vs σ H Q => ∃ F ρ ds P, c.S F H σ ρ ∧ Rs c.K c.T F ds vs ∧ g ds ρ P ∧ ∀ ρ' σ' F' H', P ρ' → c.S F' H' σ' ρ' → Same F F' → Q σ' H'
theorem lg_fld {n : Nat} {x : Str} {p1 p2 : Pos} (hK : X.K = c.K) (ok : KOk c.K c.T s) (hN : X.N[0]? = some x) (hv : Vis X.env.scope x) (hd : (x == ("__debug__" : Str)) = false) (hcd : (x == ("__classdict__" : Str)) = false) :
    PG X (.Attribute (.Name x p1) (c.T.nm n) p2) (liftF1 c fun d ρ P => stF s [(true, n)] [d] ρ P) := by
  refine pg_weak (pg_attr (pe_var hN hv hd hcd)) fun v σ H Q ⟨F, ρ, d, P, S, r, w, q⟩ => ?_
  obtain ⟨k, ns, ds, e0, h1, h2, h3, h4, w⟩ := ownI'_of w
  obtain ⟨a, u, g1, g2, ⟨dx, vs, rfl, l, rr⟩, g4, g5⟩ := S.ownAt e0
  have lz : ((ns.map c.T.nm).zip vs).length = ns.length := by simp [l]
  refine ⟨.ref a, g1, a, _, dx, _, rfl, g2, hK ▸ ok.cls k h1, hK ▸ ok.na k n h2, by rw [lz]; omega, ?_⟩
  rw [putF_zip ok.inj l]
  exact q _ _ F _ w (S.write e0 g1 (o' := .ins k (putNs n ns) (putDs n d ns ds)) ⟨dx, _, rfl, put_len l, put_rs r h4 rr⟩ fun _ _ _ _ => ⟨k, ns, ds, rfl⟩) (Same.refl F)
theorem lg_nm {i : Nat} {x : Str} {pos : Pos} (hN : X.N.Nodup) (hi : X.N[i]? = some x) (hx : Loc X.env.scope x) (hf : X.fn x = true ∨ X.env.scope.names.lookup x = some .local) : PG X (.Name x pos) (liftF1 c fun d ρ P => stF s [(false, i)] [d] ρ P) :=
  pg_weak (pg_name hN hi hx hf) fun v σ H Q ⟨F, ρ, d, P, S, r, g, q⟩ => q _ _ F H g (S.put i r) (Same.refl F)
theorem lgf_nil : PGs X [] (liftFs c (stF s [])) := pgs_weak pgs_nil fun vs σ H Q ⟨F, ρ, ds, P, S, r, g, q⟩ => by
  cases ds with
  | nil => cases r; exact ⟨rfl, q _ _ F H g S (Same.refl F)⟩
  | cons d ds => exact False.elim g
theorem stF_cons {t : Bool × Nat} {ts : List (Bool × Nat)} {d : D} {ds : List D} {ρ : List Slot} {P : List Slot → Prop} (h : stF s (t :: ts) (d :: ds) ρ P) : stF s [t] [d] ρ fun ρ' => stF s ts ds ρ' P := by
  obtain ⟨b, n⟩ := t
  cases b with
  | false => exact h
  | true =>
    have h : ownI' ρ[0]? fun k ns es => k < s.fld.length ∧ (s.fld.getD k []).contains n = true ∧ ns.length < 900 ∧ ns.length = es.length ∧ stF s ts ds (ρ.set 0 (.own (.ins k (putNs n ns) (putDs n d ns es)))) P := h
    show ownI' ρ[0]? fun k ns es => k < s.fld.length ∧ (s.fld.getD k []).contains n = true ∧ ns.length < 900 ∧ ns.length = es.length ∧ stF s ts ds (ρ.set 0 (.own (.ins k (putNs n ns) (putDs n d ns es)))) P
    exact h
theorem lgf_cons {e : Expr} {es : List Expr} {t : Bool × Nat} {ts : List (Bool × Nat)} (h1 : PG X e (liftF1 c fun d ρ P => stF s [t] [d] ρ P)) (h2 : PGs X es (liftFs c (stF s ts))) (hs : (assignEach (e :: es) X.env).map (·.2) = assign e X.env :: (assignEach es X.env).map (·.2)) : PGs X (e :: es) (liftFs c (stF s (t :: ts))) := by
  refine pgs_weak (pgs_cons h1 h2 hs) fun vs σ H Q ⟨F, ρ, ds, P, S, r, w, q⟩ => ?_
  cases ds with
  | nil => obtain ⟨b, n⟩ := t; cases b <;> exact False.elim w
  | cons d ds =>
    obtain ⟨v, t', rfl, rv, rt⟩ := r
    exact ⟨v, t', rfl, F, ρ, d, _, S, rv, stF_cons w, fun ρ' σ' F' H' w' S' e => ⟨F', ρ', ds, P, S', rt.mono e, w', fun ρ2 σ2 F2 H2 w2 S2 e2 => q ρ2 σ2 F2 H2 w2 S2 (e.trans e2)⟩⟩
/-- a field of the thing that is being made, read -/
def wFldO (s : Sig) (n : Nat) : WE := fun ρ P _ => ownI' ρ[0]? fun k ns vs => k < s.fld.length ∧ (s.fld.getD k []).contains n = true ∧ match look n ns vs with | some d => P d | none => False
theorem lv_fldO {n : Nat} {x : Str} {p1 p2 : Pos} (hK : X.K = c.K) (ok : KOk c.K c.T s) (hN : X.N[0]? = some x) (hv : Vis X.env.scope x) (hd : (x == ("__debug__" : Str)) = false) (hcd : (x == ("__classdict__" : Str)) = false)
    (hb : attributeBase (.Name x p1) (c.T.nm n) X.env (eval (.Name x p1) X.env) = eval (.Name x p1) X.env) : PE X (.Attribute (.Name x p1) (c.T.nm n) p2) (liftE c (wFldO s n)) := by
  refine pe_weak (pe_fld (pe_var hN hv hd hcd) hb) fun σ H Q ⟨F, ρ, P, E, S, w, q, _⟩ => ?_
  obtain ⟨k, ns, ds, e0, h1, h2, w⟩ := ownI'_of w
  obtain ⟨a, u, g1, g2, ⟨dx, vs, rfl, l, rr⟩, g4, g5⟩ := S.ownAt e0
  split at w
  · rename_i d' e
    obtain ⟨u, e1', r'⟩ := look_ok ok.inj rr e
    exact ⟨_, g1, a, _, dx, _, u, rfl, g2, hK ▸ ok.cls k h1, hK ▸ ok.na k n h2, e1', q d' u F H w S (Same.refl F) r'⟩
  · exact w.elim
/-- targets in parentheses = a tuple -/
def sSetF (s : Sig) (ts : List (Bool × Nat)) (w : WE) : WS := fun A ρ => w ρ (fun d => isTup d fun ds => ds.length = ts.length ∧ stF s ts ds ρ A.nx) (fun x => A.xe x ρ)
def sFldP (s : Sig) (n : Nat) (w : WE) : WS := fun A ρ => w ρ (fun d => stF s [(true, n)] [d] ρ A.nx) (fun x => A.xe x ρ)
theorem ls_setF {es : List Expr} {e : Expr} {w : WE} {k : Nat} {pos p2 : Pos} {ts : List (Bool × Nat)} (hK : X.K = c.K) (hc : X.calm = true) (he : PE X e (liftE c w)) (hg : PGs X es (liftFs c (stF s ts))) (hn : (assignEach es X.env).length = ts.length) (hst : (assignEach es X.env).findIdx? (·.1) = none) (hs : swapsWithSole [.Tuple es k p2] e pos.line X.env = pure false) (hw : swappedStores [.Tuple es k p2] e X.env = pure none) :
    PS X (.Assign [.Tuple es k p2] e pos) (liftS c (sSetF s ts w)) := by
  refine ps_weak (ps_asg he (pg_tup hc hg hn hst) hs hw rfl) fun D0 σ H ⟨F, ρ, A, S, w, q⟩ => ⟨F, ρ, _, _, S, w, fun d v F1 H1 w1 S1 e1 r1 => ?_, q.qX σ ρ⟩
  cases d with
  | tup ds =>
    obtain ⟨a, vs, rfl, s1, r2⟩ := r1
    exact ⟨a, vs, rfl, hK ▸ S1.gr.sub.sqT s1, by rw [← r2.length]; exact w1.1, F1, ρ, ds, _, S1, r2, w1.2, fun ρ' σ' F' H' w' S' e' => q.nx ρ' σ' F' H' w' S' (e1.trans e')⟩
  | _ => exact False.elim w1
theorem ls_fldP {e tg : Expr} {w : WE} {n : Nat} {pos : Pos} (he : PE X e (liftE c w)) (hg : PG X tg (liftF1 c fun d ρ P => stF s [(true, n)] [d] ρ P)) (hs : swapsWithSole [tg] e pos.line X.env = pure false) (hw : swappedStores [tg] e X.env = pure none) (h1 : (assignEach [tg] X.env).map (·.2) = [assign tg X.env]) :
    PS X (.Assign [tg] e pos) (liftS c (sFldP s n w)) :=
  ps_weak (ps_asg he hg hs hw h1) fun D0 σ H ⟨F, ρ, A, S, w, q⟩ => ⟨F, ρ, _, _, S, w, fun d v F1 H1 w1 S1 e1 r1 => ⟨F1, ρ, d, _, S1, r1, w1, fun ρ' σ' F' H' w' S' e' => q.nx ρ' σ' F' H' w' S' (e1.trans e')⟩, q.qX σ ρ⟩
end
end Tr

namespace Tr
open PySem PySem.Spec PyProof.Rows L2

/-! ### max(xs, default=None) of whole numbers; a walk over a list or a tuple -/
theorem maxOf_ok : ∀ (ys : List Int) (x : Int), PySem.W.maxOf x ys ∈ x :: ys ∧ ∀ y ∈ x :: ys, y ≤ PySem.W.maxOf x ys
  | [], x => ⟨List.mem_cons_self, fun y h => by cases h with | head => exact Int.le_refl _ | tail _ h => cases h⟩
  | z :: ys, x => by
    have e : PySem.W.maxOf x (z :: ys) = PySem.W.maxOf (if (decide (x < z)) = true then z else x) ys := rfl
    obtain ⟨h1, h2⟩ := maxOf_ok ys (if (decide (x < z)) = true then z else x)
    rw [e]
    by_cases h : x < z
    · simp only [h, decide_true, if_true] at h1 h2 ⊢
      refine ⟨List.mem_cons_of_mem _ h1, fun y hy => ?_⟩
      rcases List.mem_cons.mp hy with rfl | hy
      · exact Int.le_trans (Int.le_of_lt h) (h2 z List.mem_cons_self)
      · exact h2 y hy
    · simp only [h, decide_false, Bool.false_eq_true, if_false] at h1 h2 ⊢
      refine ⟨?_, fun y hy => ?_⟩
      · rcases List.mem_cons.mp h1 with h1 | h1
        · rw [h1]; exact List.mem_cons_self
        · exact List.mem_cons_of_mem _ (List.mem_cons_of_mem _ h1)
      · rcases List.mem_cons.mp hy with rfl | hy
        · exact h2 _ List.mem_cons_self
        · rcases List.mem_cons.mp hy with rfl | hy
          · exact Int.le_trans (Int.not_lt.mp h) (h2 _ List.mem_cons_self)
          · exact h2 y (List.mem_cons_of_mem _ hy)
def rMaxN (K : PySem.W.Frag) : List V → List V → Hp → VK → Prop := fun vs zs H Q => ∃ (a : Addr) (ns : List Int), vs = [V.ref a] ∧ zs = [.non] ∧ SqL K H a (ns.map V.int) ∧ (ns = [] → Q .non H) ∧ ∀ m, m ∈ ns → (∀ y, y ∈ ns → y ≤ m) → Q (.int m) H
theorem cr_maxN {X : Cx} (hc : X.calm = true) (hu : X.A.units + 64 < cLine) : CallRK X (.builtin "max") [Str.ofString "default"] (rMaxN X.K) := by
  intro pins s σ H vs zs us ws Q I r rz h
  obtain ⟨a, ns, rfl, rfl, hs, q0, q⟩ := h
  obtain rfl := Vals.ref1 r
  obtain ⟨w1, rfl, e1⟩ := vals1 rz
  obtain rfl : w1 = Value.none := e1
  obtain ⟨its, rv, hl, _⟩ := I.list hs
  refine PySem.W.max_list_datum_default (α := Int) (xs := ns) (I.ok.hd hc) hl.isList (PySem.W.HoldAll.of_ints rv.ints) ?_ (fun e h' tk hk => ⟨.non, H, I.kept hk, rfl, q0 e⟩) fun y ys i v h' tk e hi hv hk => ?_
  · show X.A.units + 1 + 0 < cLine
    omega
  · obtain ⟨as, r⟩ := hv
    have r : Reads h' v (.int (PySem.W.maxOf y ys)) as := r
    obtain ⟨h1, h2⟩ := maxOf_ok ys y
    rw [← e] at h1 h2
    revert r h1 h2
    generalize PySem.W.maxOf y ys = m
    intro r h1 h2
    cases r with
    | int _ t => exact ⟨.int m, H, I.kept hk, ⟨_, rfl⟩, q m h1 h2⟩
def maxN : List D → List D → (D → Prop) → Prop
  | [.lst ds], [.non], P => ∃ ns : List Int, ds = ns.map .int ∧ (ns = [] → P .non) ∧ ∀ m, m ∈ ns → (∀ y, y ∈ ns → y ≤ m) → P (.int m)
  | _, _, _ => False
def wMaxN (wa wk : WA) : WE := fun ρ P E => wa ρ (fun ds => wk ρ (fun es => maxN ds es P) E) E
section
variable {c : Ct} {X : Cx} {tg : Expr}
theorem lv_maxN {x : Str} {p pos : Pos} {e : Expr} {es : List Expr} {kws : List Keyword} {wa wk : WA} (hK : X.K = c.K) (hc : X.calm = true) (hu : X.A.units + 64 < cLine) (hx : x = "max") (hg : Gl X x) (hm : X.mg x = none) (hdb : (x == ("__debug__" : Str)) = false)
    (ha : PA X (e :: es) (liftA c wa)) (hk : PK X kws (liftA c wk)) (he : starEach (e :: es) X.env = (false, eval e X.env) :: starEach es X.env) (hpl : (backTo pos (starEach es X.env)).any (·.1) = false)
    (hall : (backToKw pos (keywordEach kws X.env)).all (·.1.isSome) = true) (hks : (backToKw pos (keywordEach kws X.env)).filterMap (·.1) = [("default" : Str)]) (hnone : (backToKw pos (keywordEach kws X.env)).any (·.1.isNone) = false) :
    PE X (.Call (.Name x p) (e :: es) kws pos) (liftE c (wMaxN wa wk)) := by
  subst hx
  refine pe_weak (pe_callBK (cr_maxN hc hu) hg hm rfl ha hk (by decide) hdb (by rw [he]; rfl) (by rw [he]; exact hpl) hall hnone hks) fun σ H Q ⟨F, ρ, P, E, S, w, q, x⟩ => ⟨F, ρ, _, E, S, w, fun ds vs F1 H1 w1 S1 e1 r1 => ⟨F1, ρ, _, E, S1, w1, fun dz zs F2 H2 w2 S2 e2 r2 => ?_, x.up e1⟩, x⟩
  have w2 : maxN ds dz P := w2
  unfold maxN at w2
  split at w2
  · obtain ⟨v, rfl, a, vs, rfl, s1, r3⟩ := rs1 (r1.mono e2)
    obtain ⟨u, rfl, r4⟩ := rs1 r2
    cases r4
    obtain ⟨ns, rfl, q0, w2⟩ := w2
    rw [rs_ints r3] at s1
    exact ⟨a, ns, rfl, rfl, hK ▸ S2.gr.sub.seq s1, fun e => q _ _ F2 H2 (q0 e) S2 (e1.trans e2) rfl, fun m h1 h2 => q _ _ F2 H2 (w2 m h1 h2) S2 (e1.trans e2) rfl⟩
  · exact w2.elim
/-! a walk over what is a list or a tuple -/
def iSq (K : PySem.W.Frag) (tl : TE) : TI := fun σ H R => tl σ H fun x H1 => ∃ a, x = .ref a ∧ (((∃ xs, SqL K H1 a xs) ∧ R (Itl K a) H1) ∨ ((∃ xs, SqT K H1 a xs) ∧ R (Itt K a) H1))
theorem pi_sq {l : Expr} {tl : TE} (hl : PE X l tl) : PI X tg l (iSq X.K tl) := by
  refine ⟨fun pins s σ H R I h => ?_⟩
  refine thn (hl.run pins s σ H _ I h) fun v s1 ⟨x, H1, I1, r1, q1⟩ => ?_
  obtain ⟨a, e, q⟩ := q1
  subst e
  cases r1
  rcases q with ⟨⟨xs, hq⟩, q⟩ | ⟨⟨xs, hq⟩, q⟩
  · obtain ⟨its, rv, p, hz⟩ := I1.list hq
    refine wpAny_pyIter_list p.isList ?_
    refine ⟨s1.heap.objs.size, [s1.heap.objs.size], _, _, H1, rfl, I1.kept (t' := s1.toks) fun b o e => Heap.get?_push_of_some _ e, turn_list a _, ⟨_, Heap.get?_push_size _ rfl, rfl, rfl⟩, fun b hb => ?_, q⟩
    have e : b = s1.heap.objs.size := by simpa using hb
    subst e
    exact I1.fpOk (Nat.le_refl _) (I1.hok.fresh (Nat.le_refl _))
  · obtain ⟨its, rv, p, hz⟩ := I1.tuple hq
    refine wpAny_pyIter_tuple (show s1.heap.IsTuple a its.toArray from p) ?_
    refine ⟨s1.heap.objs.size, [s1.heap.objs.size], _, _, H1, rfl, I1.kept (t' := s1.toks) fun b o e => Heap.get?_push_of_some _ e, turn_tuple a _, ⟨_, Heap.get?_push_size _ rfl, rfl, rfl⟩, fun b hb => ?_, q⟩
    have e : b = s1.heap.objs.size := by simpa using hb
    subst e
    exact I1.fpOk (Nat.le_refl _) (I1.hok.fresh (Nat.le_refl _))
def isSq : D → (List D → Prop) → Prop
  | .lst ds, P => P ds
  | .tup ds, P => P ds
  | _, _ => False
def wSqI (w : WE) : WI := fun ρ P E => w ρ (fun d => isSq d P) E
theorem li_seq {e : Expr} {w : WE} (hK : X.K = c.K) (h : PE X e (liftE c w)) : PI X tg e (liftI c (wSqI w)) := by
  refine pi_weak (pi_sq h) fun σ H Q ⟨F, ρ, P, E, S, w, q, x⟩ => ⟨F, ρ, _, E, S, w, fun d v F1 H1 w1 S1 e1 r1 => ?_, x⟩
  cases d with
  | lst ds =>
    obtain ⟨a, vs, rfl, s1, r2⟩ := r1
    exact ⟨a, rfl, .inl ⟨⟨vs, hK ▸ S1.gr.sub.seq s1⟩, q ds _ F1 H1 w1 S1 e1 (hK ▸ walk_list s1 r2)⟩⟩
  | tup ds =>
    obtain ⟨a, vs, rfl, s1, r2⟩ := r1
    exact ⟨a, rfl, .inr ⟨⟨vs, hK ▸ S1.gr.sub.sqT s1⟩, q ds _ F1 H1 w1 S1 e1 (hK ▸ walk_tup s1 r2)⟩⟩
  | _ => exact False.elim w1
end
end Tr

namespace Tr
open PySem PySem.Spec PyProof.Rows L2

/-! ### lists of one's own, lent to a call that gives back nothing with a list in it -/
mutual
def noL : D → Bool
  | .lst _ => false
  | .tup ds => noLs ds
  | .ins _ _ ds => noLs ds
  | .dct ds => noLs ds
  | _ => true
def noLs : List D → Bool
  | [] => true
  | d :: ds => noL d && noLs ds
end
section
variable {K : PySem.W.Frag} {T : Tab} {F F2 : Hp}
mutual
theorem R.unl (h : ∀ a o, F a = some o → (∃ vs, o = .lst vs) ∨ F2 a = some o) : ∀ {d : D} {v : V}, noL d = true → R K T F d v → R K T F2 d v
  | .non, _, _, q => q
  | .bl _, _, _, q => q
  | .int _, _, _, q => q
  | .str _, _, _, q => q
  | .ty _, _, _, q => q
  | .tup ds, _, n, q => by
    obtain ⟨a, vs, e, s, r⟩ := q
    refine ⟨a, vs, e, ?_, Rs.unl h (show noLs ds = true from n) r⟩
    rcases s with (s | ⟨o, s⟩) | s
    · rcases h _ _ s with ⟨_, z⟩ | z
      · cases z
      · exact .inl (.inl z)
    · rcases h _ _ s with ⟨_, z⟩ | z
      · cases z
      · exact .inl (.inr ⟨o, z⟩)
    · exact .inr s
  | .lst ds, _, n, _ => by cases n
  | .ins c ns ds, _, n, q => by
    obtain ⟨a, dx, vs, e, s, l, r⟩ := q
    rcases h _ _ s with ⟨_, z⟩ | z
    · cases z
    · exact ⟨a, dx, vs, e, z, l, Rs.unl h (show noLs ds = true from n) r⟩
  | .cell i, _, _, q => by
    obtain ⟨a, e, s⟩ := q
    rcases h _ _ s with ⟨_, z⟩ | z
    · exact nomatch z
    · exact ⟨a, e, z⟩
  | .dct ks, _, n, q => by
    obtain ⟨a, xs, e, s, m, d, r⟩ := q
    rcases h _ _ s with ⟨_, z⟩ | z
    · unfold DxO at z; exact nomatch z
    · exact ⟨a, xs, e, z, m, d, Rs.unl h (show noLs ks = true from n) r⟩
theorem Rs.unl (h : ∀ a o, F a = some o → (∃ vs, o = .lst vs) ∨ F2 a = some o) : ∀ {ds : List D} {vs : List V}, noLs ds = true → Rs K T F ds vs → Rs K T F2 ds vs
  | [], _, _, q => q
  | d :: ds, _, n, q => by
    obtain ⟨v, r, e, a, b⟩ := q
    have n : (noL d && noLs ds) = true := n
    rw [Bool.and_eq_true] at n
    exact ⟨v, r, e, R.unl h n.1 a, Rs.unl h n.2 b⟩
end
theorem MemoOk.unl (h : ∀ a o, F a = some o → (∃ vs, o = .lst vs) ∨ F2 a = some o) (hm : ∀ i zs d, T.mem i zs = some d → noL d = true) {p : Addr} {i : Nat} {u : HO} (q : MemoOk K T F p i u) : MemoOk K T F2 p i u := by
  cases u with
  | dK kvs => exact ⟨q.1, fun k v m => by obtain ⟨z, d, e1, e2, r⟩ := q.2 k v m; exact ⟨z, d, e1, e2, r.unl h (hm _ _ _ e2)⟩⟩
  | dT kvs => exact ⟨q.1, fun k v m => by obtain ⟨z, d, e1, e2, r⟩ := q.2 k v m; exact ⟨z, d, e1, e2, r.unl h (hm _ _ _ e2)⟩⟩
  | tbl ps => exact ⟨q.1, q.2.1, q.2.2.1, fun pos cv m => by
      obtain ⟨c, e1, e2⟩ := q.2.2.2 pos cv m
      rcases h _ _ e2 with ⟨vs, z⟩ | z
      · exact nomatch z
      · exact ⟨c, e1, z⟩⟩
  | _ => exact q
def noLO : O → Bool
  | .lst ds => noLs ds
  | .ins _ _ ds => noLs ds
  | .dct _ => false
theorem OAt.unl (h : ∀ a o, F a = some o → (∃ vs, o = .lst vs) ∨ F2 a = some o) : ∀ {o : O} {u : HO}, noLO o = true → OAt K T F o u → OAt K T F2 o u
  | .lst _, _, n, ⟨vs, e, r⟩ => ⟨vs, e, Rs.unl h n r⟩
  | .ins _ _ _, _, n, ⟨dx, vs, e, l, r⟩ => ⟨dx, vs, e, l, Rs.unl h n r⟩
  | .dct _, _, n, _ => nomatch n
end
def frz1 (ρ : List Slot) (i : Nat) : List Slot := match ρ[i]? with | some (.own (.lst ds)) => ρ.set i (.val (.lst ds)) | _ => ρ
def frzR : List Slot → List Nat → List Slot
  | ρ, [] => ρ
  | ρ, i :: is => frzR (frz1 ρ i) is
def isOwnL (ρ : List Slot) (i : Nat) : Bool := match ρ[i]? with | some (.own (.lst _)) => true | _ => false
def slOk : Slot → Bool
  | .own o => noLO o
  | _ => true
/-- the lists at `is` are lent; what they and the other things of one's own hold has no list in it -/
def sLend (mem : Nat → List Int → Option D) (is : List Nat) (t : Nat) (w : WE) : WS := fun A ρ => (∀ i zs d, mem i zs = some d → noL d = true) ∧ (∀ i ∈ is, isOwnL ρ i = true) ∧ is.Nodup ∧ (∀ s ∈ ρ, slOk s = true) ∧
  w (frzR ρ is) (fun d => noL d = true ∧ A.nx (ρ.set t (.val d))) (fun _ => False)
section
variable {c : Ct} {X : Cx} {F H : Hp} {σ : L2.St} {ρ : List Slot}
theorem isOwnL_of {i : Nat} (h : isOwnL ρ i = true) : ∃ ds, ρ[i]? = some (.own (.lst ds)) := by
  unfold isOwnL at h
  split at h
  · exact ⟨_, by assumption⟩
  · cases h
theorem frz1_of {i : Nat} {ds : List D} (h : ρ[i]? = some (.own (.lst ds))) : frz1 ρ i = ρ.set i (.val (.lst ds)) := by
  unfold frz1
  rw [h]
theorem frz1_ne {i j : Nat} (h : i ≠ j) : (frz1 ρ i)[j]? = ρ[j]? := by
  unfold frz1
  split
  · exact List.getElem?_set_ne h
  · rfl
theorem frzR_ne : ∀ {is : List Nat} {ρ : List Slot} {j : Nat}, j ∉ is → (frzR ρ is)[j]? = ρ[j]?
  | [], _, _, _ => rfl
  | i :: is, ρ, j, h => by
    show (frzR (frz1 ρ i) is)[j]? = ρ[j]?
    rw [frzR_ne fun z => h (List.mem_cons_of_mem _ z)]
    exact frz1_ne fun z => h (z ▸ List.mem_cons_self)
/-- one is frozen -/
theorem Stt.frzU (S : c.S F H σ ρ) {i : Nat} {ds : List D} {vs : List V} {a : Addr} (e : ρ[i]? = some (.own (.lst ds))) (g1 : σ[i]? = some (some (.ref a))) (g2 : H a = some (.lst vs)) (g3 : Rs c.K c.T F ds vs) (g4 : F a = none) (g5 : c.B a = none) : c.S (upd F a (.lst vs)) H σ (ρ.set i (.val (.lst ds))) ∧ Same F (upd F a (.lst vs)) := by
  have sF : Same F (upd F a (.lst vs)) := fun b x z => by rw [upd_ne (ne_of_none z g4)]; exact z
  refine ⟨⟨⟨S.gr.keep, S.gr.sub.add g2, fun b x z => ?_, S.gr.old.trans sF, S.gr.cel.add (fun i z => nomatch z) sF⟩, by rw [List.length_set]; exact S.len, fun j t ej => ?_, fun j k b o1 o2 h1 h2 h3 h4 => ?_, fun j k ns ds h => ?_⟩, sF⟩
  · by_cases q : b = a
    · subst q; exact .inr g5
    · rw [upd_ne q] at z; exact S.gr.new b x z
  · have hj' : j < ρ.length := by have := lt_of_get ej; rwa [List.length_set] at this
    by_cases hj : i = j
    · subst hj
      rw [List.getElem?_set_self hj'] at ej
      cases ej
      exact ⟨.ref a, by rw [g1]; rfl, a, vs, rfl, .inl (.inl upd_same), g3.mono sF⟩
    · rw [List.getElem?_set_ne hj] at ej
      have z := S.slot j t ej
      cases t with
      | emp => trivial
      | val d => obtain ⟨v, e1, r⟩ := z; exact ⟨v, e1, r.mono sF⟩
      | own ob =>
        obtain ⟨b, w, e1, e2, e3, e4, e5⟩ := S.ownAt ej
        have nb : b ≠ a := fun q => hj (S.sep i j a _ ob e ej g1 (by rw [e1, q]))
        exact ⟨b, w, by rw [e1]; rfl, e2, e3.mono sF, by rw [upd_ne nb]; exact e4, e5⟩
  · have back : ∀ {j : Nat} {o1 : O}, (ρ.set i (.val (.lst ds)))[j]? = some (.own o1) → ρ[j]? = some (.own o1) := fun {j o1} h => by
      by_cases hj : i = j
      · subst hj
        rw [List.getElem?_set_self (by have := lt_of_get h; rwa [List.length_set] at this)] at h
        cases h
      · rw [List.getElem?_set_ne hj] at h; exact h
    exact S.sep j k b o1 o2 (back h1) (back h2) h3 h4
  · by_cases hj : i = j
    · subst hj
      rw [List.getElem?_set_self (by have := lt_of_get h; rwa [List.length_set] at this)] at h
      cases h
    · rw [List.getElem?_set_ne hj] at h
      exact S.inst j k ns ds h
theorem Stt.frzAll : ∀ {is : List Nat} {ρ : List Slot} {F : Hp}, c.S F H σ ρ → (∀ i ∈ is, isOwnL ρ i = true) → is.Nodup →
    ∃ F1, c.S F1 H σ (frzR ρ is) ∧ Same F F1 ∧ ∀ i ∈ is, ∀ a vs, σ[i]? = some (some (.ref a)) → H a = some (.lst vs) → F1 a = some (.lst vs)
  | [], ρ, F, S, _, _ => ⟨F, S, Same.refl F, fun i h => by cases h⟩
  | i :: is, ρ, F, S, ho, hn => by
    obtain ⟨ds, e⟩ := isOwnL_of (ho i List.mem_cons_self)
    obtain ⟨a, u, g1, g2, ⟨vs, rfl, r⟩, g4, g5⟩ := S.ownAt e
    obtain ⟨S1, e1⟩ := S.frzU e g1 g2 r g4 g5
    have hn' := List.nodup_cons.mp hn
    obtain ⟨F1, S2, e2, h2⟩ := Stt.frzAll (is := is) S1 (fun j hj => by
      have : i ≠ j := fun z => hn'.1 (z ▸ hj)
      unfold isOwnL
      rw [List.getElem?_set_ne this]
      exact ho j (List.mem_cons_of_mem _ hj)) hn'.2
    refine ⟨F1, ?_, e1.trans e2, fun j hj b ws k1 k2 => ?_⟩
    · show c.S F1 H σ (frzR (frz1 ρ i) is)
      rw [frz1_of e]
      exact S2
    · rcases List.mem_cons.mp hj with rfl | hj
      · rw [g1] at k1
        cases k1
        rw [g2] at k2
        cases k2
        exact e2 _ _ upd_same
      · exact h2 j hj b ws k1 k2
open Classical in
/-- they are taken back -/
theorem Stt.thaw (hm : ∀ i zs d, c.T.mem i zs = some d → noL d = true) {is : List Nat} {F1 F2 H2 : Hp} (S : c.S F H σ ρ) (ho : ∀ i ∈ is, isOwnL ρ i = true) (hs : ∀ s ∈ ρ, slOk s = true) (h1 : ∀ i ∈ is, ∀ a vs, σ[i]? = some (some (.ref a)) → H a = some (.lst vs) → F1 a = some (.lst vs)) (e1 : Same F F1) (e2 : Same F1 F2) (S2 : c.S F2 H2 σ (frzR ρ is)) :
    ∃ F3, c.S F3 H2 σ ρ ∧ Same F F3 ∧ ∀ a o, F2 a = some o → (∃ vs, o = .lst vs) ∨ F3 a = some o := by
  obtain ⟨F3, h3⟩ : ∃ F3 : Hp, ∀ a, F3 a = if (F a = none ∧ ∃ i ∈ is, σ[i]? = some (some (.ref a))) then none else F2 a := ⟨fun a => if (F a = none ∧ ∃ i ∈ is, σ[i]? = some (some (.ref a))) then none else F2 a, fun _ => rfl⟩
  have own : ∀ i ∈ is, ∃ a ds vs, σ[i]? = some (some (.ref a)) ∧ ρ[i]? = some (.own (.lst ds)) ∧ F2 a = some (.lst vs) ∧ Rs c.K c.T F ds vs ∧ F a = none ∧ c.B a = none := fun i hi => by
    obtain ⟨ds, e⟩ := isOwnL_of (ho i hi)
    obtain ⟨a, u, g1, g2, ⟨vs, rfl, r⟩, g4, g5⟩ := S.ownAt e
    exact ⟨a, ds, vs, g1, e, e2 _ _ (h1 i hi a vs g1 g2), r, g4, g5⟩
  have s3 : Same F F3 := fun a o e => by
    rw [h3, if_neg (fun z => by rw [z.1] at e; cases e)]
    exact e2 _ _ (e1 _ _ e)
  have dr : ∀ a o, F2 a = some o → (∃ vs, o = .lst vs) ∨ F3 a = some o := fun a o e => by
    by_cases z : F a = none ∧ ∃ i ∈ is, σ[i]? = some (some (.ref a))
    · obtain ⟨_, i, hi, g⟩ := z
      obtain ⟨b, ds, vs, k1, k2, k3, _⟩ := own i hi
      rw [g] at k1
      cases k1
      rw [e] at k3
      cases k3
      exact .inl ⟨vs, rfl⟩
    · rw [h3, if_neg z]
      exact .inr e
  have back : ∀ a o, F3 a = some o → F2 a = some o := fun a o e => by
    rw [h3] at e
    split at e
    · cases e
    · exact e
  refine ⟨F3, ⟨⟨S2.gr.keep, ⟨fun a o e n => S2.gr.sub.p a o (back a o e) n, fun a e => ?_⟩, fun a o e => S2.gr.new a o (back a o e), S.gr.old.trans s3, ⟨fun a i e => ?_, fun q hq => ?_⟩⟩, S.len, fun i s e => ?_, S.sep, S.inst⟩, s3, dr⟩
  · cases z : F3 a with
    | none => rfl
    | some o => have := back a o z; rw [S2.gr.sub.d a e] at this; cases this
  · obtain ⟨u, k1, k2⟩ := S2.gr.cel.m a i (back _ _ e)
    exact ⟨u, k1, k2.unl dr hm⟩
  · rcases dr _ _ (S2.gr.cel.tb q hq) with ⟨vs, z⟩ | z
    · exact nomatch z
    · exact z
  cases s with
  | emp => trivial
  | val d =>
    obtain ⟨v, k1, r⟩ := S.slot i _ e
    exact ⟨v, k1, r.mono s3⟩
  | own o =>
    by_cases hi : i ∈ is
    · obtain ⟨a, ds, vs, k1, k2, k3, r, k4, k5⟩ := own i hi
      rw [e] at k2
      cases k2
      exact ⟨a, .lst vs, by rw [k1]; rfl, S2.gr.sub.p _ _ k3 (fun _ z => nomatch z), ⟨vs, rfl, r.mono s3⟩, by rw [h3, if_pos ⟨k4, i, hi, k1⟩], k5⟩
    · obtain ⟨a, u, k1, k2, k3, k4, k5⟩ := S2.slot i (.own o) (by rw [frzR_ne hi]; exact e)
      have n := hs _ (List.mem_of_getElem? e)
      refine ⟨a, u, k1, k2, k3.unl dr n, ?_, k5⟩
      rw [h3, k4]
      split <;> rfl
theorem ls_lend {is : List Nat} {i : Nat} {x : Str} {p' pos : Pos} {e : Expr} {w : WE} (hN : X.N.Nodup) (hi : X.N[i]? = some x) (hx : Loc X.env.scope x) (hf : X.fn x = true ∨ X.env.scope.names.lookup x = some .local) (he : PE X e (liftE c w)) (hs : swapsWithSole [.Name x p'] e pos.line X.env = pure false) (hw : swappedStores [.Name x p'] e X.env = pure none) : PS X (.Assign [.Name x p'] e pos) (liftS c (sLend c.T.mem is i w)) := by
  refine ps_weak (ps_asg he (pg_name hN hi hx hf) hs hw rfl) fun D0 σ H ⟨F, ρ, A, S, w, q⟩ => ?_
  obtain ⟨hm, ho, hn, hsl, w⟩ := w
  obtain ⟨F1, S1, e1, h1⟩ := S.frzAll ho hn
  refine ⟨F1, frzR ρ is, _, _, S1, w, fun d v F2 H2 w2 S2 e2 r2 => ?_, fun x cls dx F' H' z _ _ _ => z.elim⟩
  obtain ⟨F3, S3, e3, dr⟩ := S.thaw hm ho hsl h1 e1 e2 S2
  exact q.nx _ _ F3 H2 w2.2 (S3.put i (r2.unl dr w2.1)) e3
end
end Tr

namespace Tr
open PySem PySem.Spec PyProof.Rows L2

/-! ### sorted(xs, key=lambda x: x[0] * (w // x[1])), xs pairs of whole numbers -/
def pairD (p : Int × Int) : D := .tup [.int p.1, .int p.2]
def keyI (z : Int) (p : Int × Int) : Int := p.1 * (z / p.2)
def wSrt (i : Nat) (w : WE) : WE := fun ρ P E => w ρ (fun d => ∃ (ps : List (Int × Int)) (z : Int), d = .lst (ps.map pairD) ∧ ρ[i]? = some (.val (.int z)) ∧ (∀ p ∈ ps, CDivW z p.2 ∧ MulOk p.1 (z / p.2)) ∧
  P (.lst ((ps.mergeSort fun p q => decide (keyI z p ≤ keyI z q)).map pairD))) E

section
variable {prog : Program} {w : World} {A : Around} {E : Value → Shared → Prop} {s : Shared}
theorem sub_tup {env : Env} {e : Expr} {a : Addr} {its : Array Value} {u : Value} {z : Int} {j k : Nat} {p pos : Pos} {Q : Value → Shared → Prop} (hz : -2 ^ 63 ≤ z) (hz' : z < 2 ^ 63) (hj : seqIndex? z its.size = some j) (hu : its[j]? = some u) (hT : IsTup s.heap a its)
    (he : ∀ Q' : Value → Shared → Prop, Q' (.ref a) s → wpAny (model prog w) A (eval e env) Q' E s) (hl : ∀ o r, letTemporaryGo e o r = pure ()) (h : ∀ tk, Q u { s with toks := tk }) :
    wpAny (model prog w) A (eval (.Subscript e (.Constant (.int z) k p) pos) env) Q E s := by
  refine Subscript_Constant (he _ (wpAny_Constant_int ⟨"tuple", "tuple.__getitem__", slot_tuple_getitem.lookup, ?_, ?_⟩)) hl
  · exact IsTup.typeIs (s := { s with toks := s.toks + 1 }) hT
  · exact getItem_tuple (s := { s with toks := s.toks + 1 }) hT hz hz' hj hu (h _)
/-- the key of a pair, worked out in the lambda's frame -/
theorem key_run {env : Env} {m : Str → Option Value} {x y : Str} {a c : Addr} {n d z : Int} {t u tz : Tok} {k0 k1 : Nat} {p1 p2 p3 p4 p5 p6 p7 p8 p9 : Pos} {Q : Value → Shared → Prop} (hk : env.scope.kind = .function) (hx : env.kindOf x = some .local) (hy : env.kindOf y = some .free)
    (dx : (x == ("__debug__" : Str)) = false) (dy : (y == ("__debug__" : Str)) = false) (cy : (y == ("__classdict__" : Str)) = false)
    (hn : s.heap.Ns env.locals m) (hm : m x = some (.ref a)) (hT : IsTup s.heap a #[.int n t, .int d u]) (hc : env.cells.lookup y = some c) (hC : s.heap.IsCell c (some (.int z tz))) (hd : CDivW z d) (hM : MulOk n (z / d)) (h : ∀ v tk, Q (.int (n * (z / d)) v) { s with toks := tk }) :
    wpAny (model prog w) A (eval (.BinOp (.Subscript (.Name x p1) (.Constant (.int 0) k0 p2) p3) .Mult (.BinOp (.Name y p4) .FloorDiv (.Subscript (.Name x p5) (.Constant (.int 1) k1 p6) p7) p8) p9) env) Q E s := by
  have nm : ∀ (tk : Nat) (p : Pos) (Q' : Value → Shared → Prop), Q' (.ref a) { s with toks := tk } → wpAny (model prog w) A (eval (.Name x p) env) Q' E { s with toks := tk } := fun tk p Q' q => wpAny_Name (wpAny_loadName_local (s := { s with toks := tk }) hk hx hn hm q) dx
  refine wpAny_BinOp (sub_tup (j := 0) (by decide) (by decide) rfl rfl hT (nm s.toks p1) (fun _ _ => rfl) fun tk => ?_)
  refine wpAny_BinOp (wpAny_Name (wpAny_loadName_free (s := { s with toks := tk }) hk hy hc hC ?_ cy) dy)
  refine sub_tup (s := { s with toks := tk }) (j := 1) (by decide) (by decide) rfl rfl hT (nm tk p5) (fun _ _ => rfl) fun tk2 => ?_
  have h1 : (0 : Int) < d := hd.1
  refine floordiv_int (s := { s with toks := tk2 }) (by omega) ?_ (.inl (PyProof.noPylong_of_log2 hd.2))
  rw [Int.fdiv_eq_ediv_of_nonneg z (by omega)]
  exact mul_int (s := { s with toks := tk2 + 1 }) (h _ _) hM.ok
/-- the lambda's text -/
def lamBody (x y : Str) (k0 k1 : Nat) (p1 p2 p3 p4 p5 p6 p7 p8 p9 : Pos) : Expr :=
  .BinOp (.Subscript (.Name x p1) (.Constant (.int 0) k0 p2) p3) .Mult (.BinOp (.Name y p4) .FloorDiv (.Subscript (.Name x p5) (.Constant (.int 1) k1 p6) p7) p8) p9
structure LamSc (sc scope : Scope) (x y : Str) : Prop where
  kind : scope.kind = .function
  co : scope.isCoroutine = false
  gen : scope.isGenerator = false
  noC : ∀ z ∈ scope.names, z.2 ≠ .cell
  hx : scope.names.lookup x = some .local
  hy : scope.names.lookup y = some .free
  free : ∀ z ∈ scope.names, z.2 = .free → sc.names.lookup z.1 = some .cell
  dx : (x == ("__debug__" : Str)) = false
  dy : (y == ("__debug__" : Str)) = false
  cy : (y == ("__classdict__" : Str)) = false
theorem lam_turn {sc scope : Scope} {x y q : Str} {f a cc c' : Addr} {n d z : Int} {t u tz : Tok} {pars : Arguments} {clos : List (Str × Addr)} {pm ctv : Value} {k0 k1 : Nat} {p1 p2 p3 p4 p5 p6 p7 p8 p9 : Pos} (hr : A.depth < recursionLimit) (L : LamSc sc scope x y)
    (ho : s.heap.get? f = some (PySem.W.kla_obj "<lambda>" q pars (lamBody x y k0 k1 p1 p2 p3 p4 p5 p6 p7 p8 p9) scope clos pm c' ctv)) (hcd : s.heap.CodeRec (.ref c') q) (lim : s.heap.NoLimit)
    (hbind : bindArgs (PySem.W.kla_fn "<lambda>" q pars (lamBody x y k0 k1 p1 p2 p3 p4 p5 p6 p7 p8 p9) scope clos pm (.ref c') ctv) ⟨[.ref a], []⟩ = pure [(x, .ref a)])
    (hT : IsTup s.heap a #[.int n t, .int d u]) (hc : clos.lookup y = some cc) (hC : s.heap.IsCell cc (some (.int z tz))) (hd : CDivW z d) (hM : MulOk n (z / d)) :
    wpAny (model prog w) A (call (.ref f) [.ref a]) (PySem.W.KeyPure (.int (keyI z (n, d))) s) (fun _ _ => False) s := by
  have rc : codeAny (model prog w) A (.call (.ref f) ⟨[.ref a], []⟩) (fun r s' => ∃ v, r = .ok (.ret v) ∧ PySem.W.KeyPure (.int (keyI z (n, d))) s v s') s := by
    refine PySem.W.kla_callFunE hr ho rfl L.co L.gen rfl hcd ?_
    rw [hbind]
    refine wpAny_pure (wpAny_newFunctionEnv L.noC (fun w hw => ?_) (fun h₁ hns hsb => ⟨lim.fresh _ hsb, ?_⟩) L.kind)
    · have : w = (x, Value.ref a) := by simpa using hw
      subst this
      exact L.hx
    · have kp : ∀ b o, s.heap.get? b = some o → h₁.get? b = some o := fun b o e => hsb.extBut b o (Nat.ne_of_lt (Heap.lt_size e)) (Heap.get?_push_of_some _ e)
      refine PySem.W.kla_codeExpr ?_
      have hT' : IsTup h₁ a #[.int n t, .int d u] := by
        obtain ⟨o, e1, e2⟩ := hT
        exact ⟨o, kp _ _ e1, e2⟩
      have hC' : h₁.IsCell cc (some (.int z tz)) := by
        obtain ⟨o, e1, e2⟩ := hC
        exact ⟨o, kp _ _ e1, e2⟩
      exact key_run (s := { s with heap := h₁, toks := s.toks + [(x, Value.ref a)].length }) L.kind L.hx L.hy L.dx L.dy L.cy hns (by simp [List.lookup]) hT' hc hC' hd hM fun v tk => ⟨_, rfl, h₁, tk, rfl, kp, Reads.int _ _⟩
  refine wpAny_call (codeAny_mono rc fun r s' hq => ?_)
  obtain ⟨v, rfl, hq⟩ := hq
  exact hq
end

/-! ### memories written -/
section
variable {c : Ct} {F H : Hp} {σ : L2.St} {ρ : List Slot}
end

/-! ### the making of the lambda -/
/-- what is known where a lambda is made: the code object, its table -/
structure LamAt (X : Cx) (c : Ct) : Prop where
  ex : ∃ (cd P : Addr) (i : Nat), X.env.code = .ref cd ∧ LamX.TabB X.base X.mg cd P ∧ (P, i) ∈ c.T.tbs ∧ i % 4 = 1 ∧ c.T.tbq i = X.env.qual ++ "<lambda>" ∧ Room 1 X.A
section
variable {X : Cx} {c : Ct} {pins : List (Addr × Obj)} {F H : Hp} {σ : L2.St} {ρ : List Slot} {s : Shared}
theorem lam_mk {pars : Arguments} {body : Expr} {scope : Scope} {pos : Pos} {E Q : Value → Shared → Prop} (I : Inv X pins σ H s) (S : c.S F H σ ρ) (L : LamAt X c) (hdef : defaultsOf pars X.env = ([], [])) (hfree : ∀ y ∈ scope.names, y.2 = .free → ∃ c, X.env.cells.lookup y.1 = some c)
    (h : ∀ (f c' : Addr) (pm ctv : Value) (H1 F1 : Hp) (s' : Shared), Inv X pins σ H1 s' → c.S F1 H1 σ ρ → Same F F1 → s'.heap.get? f = some (PySem.W.kla_obj "<lambda>" (X.env.qual ++ "<lambda>") pars body scope (cloFrom X.env.cells scope.names []) pm c' ctv) →
      s'.heap.CodeRec (.ref c') (X.env.qual ++ "<lambda>") → Q (.ref f) s') :
    wpAny (model X.prog X.w) X.A (eval (.Lambda pars body scope pos) X.env) Q E s := by
  obtain ⟨cd, P, i, hcode, TB, hm, hodd, hq, _⟩ := L.ex
  have eP := S.gr.cel.tb _ hm
  obtain ⟨u, hP, mo⟩ := S.gr.cel.m _ _ eP
  have ps : ∃ ps, u = .tbl ps ∧ TriplesOk ps.toList ∧ ∀ (pos : Pos) (cv : Value), codeAmong pos ps.toList = some cv → ∃ c', cv = .ref c' ∧ F c' = some (LamX.CodeO c' (c.T.tbq i)) := by
    cases u with
    | tbl ps => exact ⟨ps, rfl, mo.2.2.1, mo.2.2.2⟩
    | lst vs => have := mo.1; omega
    | dK kvs => have := mo.1; omega
    | dT kvs => have := mo.1; omega
    | _ => exact mo.elim
  obtain ⟨ps, rfl, ht, hcs⟩ := ps
  have hP : H P = some (.tbl ps) := hP
  have oP : s.heap.get? P = some { cls := .none, data := .fields ps } := I.hok P _ hP
  have noC : ∀ (c' : Addr) (q : Str) (j : Nat), LamX.CodeO c' q ≠ mkr j := fun c' q j z => by
    unfold LamX.CodeO mkr at z
    cases z
  refine PySem.W.kla_eval hdef ?_
  cases hc : codeAmong pos ps.toList with
  | some cv =>
    obtain ⟨c', e, hco⟩ := hcs pos cv hc
    subst e
    refine PySem.W.kla_makeFunctionHit (mg := X.mg) (c := cd) (P := P) (ps := ps) (closure_ok hfree) I.ok.glob (I.mod.glob.keeps I.bk) hcode (TB.code.keeps I.bk) oP ht hc (TB.bm.keeps I.bk) fun ctv h' tk hx hsz => ?_
    have kp : ∀ b o, s.heap.get? b = some o → (h'.push (PySem.W.kla_obj "<lambda>" (X.env.qual ++ "<lambda>") pars body scope (cloFrom X.env.cells scope.names []) ((X.mg "__name__").getD .none) c' ctv)).get? b = some o := fun b o e => Heap.get?_push_of_some _ (hx b o e)
    have hC : H c' = some (LamX.CodeO c' (c.T.tbq i)) := S.gr.sub.p _ _ hco (noC _ _)
    obtain ⟨oc, vs, t, e1, e2, e3⟩ := (I.hok c' _ hC).1
    rw [hq] at e3
    exact h h'.objs.size c' _ ctv H F _ (I.kept kp) S (Same.refl F) (Heap.get?_push_size _ rfl) ⟨c', oc, vs, t, rfl, kp _ _ e1, e2, e3⟩
  | none =>
    refine PySem.W.kla_makeFunction (mg := X.mg) (c := cd) (P := P) (ps := ps) (closure_ok hfree) I.ok.glob (I.mod.glob.keeps I.bk) hcode (TB.code.keeps I.bk) oP ht hc TB.gP (TB.bm.keeps I.bk) fun c' ctv h' tk hx hge hlt hrec htb => ?_
    obtain ⟨c2, oc, vs, t, e2, hoc, hd, hv⟩ := hrec
    cases e2
    have nC : H c' = none := I.hok.fresh hge
    have nP : c' ≠ P := fun z => by subst z; rw [hP] at nC; cases nC
    obtain ⟨S1, e1⟩ := S.frozen nC (LamX.CodeO c' (c.T.tbq i)) (noC _ _)
    have S2 := S1.mem (p := P) (i := i) (u := .tbl (ps ++ #[rawInt pos.line, rawInt pos.col, .ref c'])) (e1 _ _ eP) ⟨hodd, hm, by
        rw [Array.toList_append]
        exact TriplesOk_snoc _ _ _ _ ht, fun p2 cv hcv => by
        rw [Array.toList_append] at hcv
        rcases LamX.among_app _ ht hcv with z | z
        · obtain ⟨c0, k1, k2⟩ := hcs p2 cv z
          exact ⟨c0, k1, e1 _ _ k2⟩
        · exact ⟨c', z, upd_same⟩⟩
    have eH : upd (upd H c' (LamX.CodeO c' (c.T.tbq i))) P (.tbl (ps ++ #[rawInt pos.line, rawInt pos.col, .ref c'])) = upd (upd H P (.tbl (ps ++ #[rawInt pos.line, rawInt pos.col, .ref c']))) c' (LamX.CodeO c' (c.T.tbq i)) := by
      funext b
      by_cases z : b = P
      · subst z; rw [upd_same, upd_ne nP.symm, upd_same]
      · rw [upd_ne z]
        by_cases z2 : b = c'
        · subst z2; rw [upd_same, upd_same]
        · rw [upd_ne z2, upd_ne z2, upd_ne z]
    rw [eH] at S2
    have I1 := LamX.inv_table (t' := tk) (q := c.T.tbq i) (more := #[rawInt pos.line, rawInt pos.col, .ref c']) (h' := h'.push (PySem.W.kla_obj "<lambda>" (X.env.qual ++ "<lambda>") pars body scope (cloFrom X.env.cells scope.names []) ((X.mg "__name__").getD .none) c' ctv)) I hP
      (fun b o hb e => Heap.get?_push_of_some _ (hx b o hb e)) (Heap.get?_push_of_some _ htb) hge ⟨oc, vs, t, Heap.get?_push_of_some _ hoc, hd, by rw [hq]; exact hv⟩
    exact h h'.objs.size c' _ ctv _ _ _ I1 S2 e1 (Heap.get?_push_size _ rfl) ⟨c', oc, vs, t, rfl, Heap.get?_push_of_some _ hoc, hd, hv⟩
end

/-! ### the call of sorted -/
section
variable {K : PySem.W.Frag} {T : Tab} {F H : Hp} {h : Heap}
/-- a value, its pair, its letter -/
def SrtR (K : PySem.W.Frag) (T : Tab) (F : Hp) (h : Heap) (v : Value) (b : (Int × Int) × V) : Prop :=
  RelV b.2 v ∧ R K T F (pairD b.1) b.2 ∧ ∃ (a : Addr) (t u : Tok), v = .ref a ∧ IsTup h a #[.int b.1.1 t, .int b.1.2 u]
theorem srt_each (hI : ∀ a vs, SqT K F a vs → ∃ its : List Value, Vals vs its ∧ IsTup h a its.toArray) : ∀ {ps : List (Int × Int)} {vs : List V} {its : List Value}, Rs K T F (ps.map pairD) vs → Vals vs its → PySem.W.EachIs (SrtR K T F h) its (ps.zip vs)
  | [], _, _, r, q => by
    cases r
    cases q
    exact .nil
  | p :: ps, _, _, r, q => by
    obtain ⟨v, r', rfl, r1, r2⟩ := r
    cases q with
    | cons q1 q2 =>
      refine .cons ⟨q1, r1, ?_⟩ (srt_each hI r2 q2)
      obtain ⟨a, ws, rfl, st, rw⟩ := r1
      obtain ⟨its, w, T⟩ := hI a ws st
      obtain ⟨v1, v2, rfl, e1, e2⟩ := rs2 rw
      cases e1
      cases e2
      obtain ⟨w1, w2, rfl, d1, d2⟩ := vals2 w
      obtain ⟨t, rfl⟩ := d1
      obtain ⟨u, rfl⟩ := d2
      obtain rfl := q1
      exact ⟨a, t, u, rfl, T⟩
theorem srt_back : ∀ {bs : List ((Int × Int) × V)} {out : List Value}, PySem.W.EachIs (SrtR K T F h) out bs → Vals (bs.map (·.2)) out ∧ Rs K T F (bs.map fun b => pairD b.1) (bs.map (·.2))
  | [], _, e => by cases e; exact ⟨.nil, rfl⟩
  | b :: bs, _, e => by
    cases e with
    | cons e1 e2 =>
      obtain ⟨h1, h2⟩ := srt_back e2
      exact ⟨.cons e1.1 h1, _, _, rfl, e1.2.1, h2⟩
theorem zip_fst : ∀ {α β : Type} (l : List α) (r : List β), l.length = r.length → (l.zip r).map (·.1) = l
  | _, _, [], _, _ => rfl
  | _, _, a :: l, [], h => by cases h
  | _, _, a :: l, b :: r, h => by
    simp only [List.zip_cons_cons, List.map_cons]
    rw [zip_fst l r (by simpa using h)]
end
section
variable {X : Cx} {c : Ct}
/-- the lambda's one parameter -/
def lamPars (x : Str) (ap : Pos) : Arguments := ⟨[], [⟨x, none, ap⟩], none, [], [], none, []⟩
theorem lam_bind {n q x : Str} {ap : Pos} {body : Expr} {scope : Scope} {cl : List (Str × Addr)} {pm cv ctv v : Value} : bindArgs (PySem.W.kla_fn n q (lamPars x ap) body scope cl pm cv ctv) ⟨[v], []⟩ = pure [(x, v)] := by
  have e : seqItems? Value.none = pure none := rfl
  simp [bindArgs, lamPars, e]
theorem lv_srt {f x y : Str} {i : Nat} {e : Expr} {w : WE} {scope : Scope} {ap lpos kp p pos : Pos} {k0 k1 : Nat} {p1 p2 p3 p4 p5 p6 p7 p8 p9 : Pos} (hf : f = "sorted") (hK : X.K = c.K) (hg : Gl X f) (hm : X.mg f = none) (hu : X.A.units + 64 < cLine) (he : PE X e (liftE c w)) (L : LamAt X c) (Ls : LamSc X.env.scope scope x y)
    (hN : X.N[i]? = some y) (hs : starEach [e] X.env = (false, eval e X.env) :: starEach [] X.env) :
    PE X (.Call (.Name f p) [e] [⟨some "key", .Lambda (lamPars x ap) (lamBody x y k0 k1 p1 p2 p3 p4 p5 p6 p7 p8 p9) scope lpos, kp⟩] pos) (liftE c (wSrt i w)) := by
  subst hf
  refine ⟨fun pins s σ H Q I h => ?_⟩
  obtain ⟨F, ρ, P, E, S, w0, q, hx⟩ := h
  refine wpAny_Call_Name_kw (ld_blt (x := "sorted") (u := .builtin "sorted") I hg hm (by decide +kernel) ?_)
  have hfree : ∀ z ∈ scope.names, z.2 = .free → ∃ c, X.env.cells.lookup z.1 = some c := fun z hz e => I.ok.has _ (.inl (Ls.free z hz e))
  refine PyProof.Rows.callWith_kw (thn ((pa_cons he pa_nil hs).run pos pins s σ H (fun us H1 => ∃ v d F1, us = [v] ∧ c.S F1 H1 σ ρ ∧ Same F F1 ∧ R c.K c.T F1 d v ∧
      ∃ (ps : List (Int × Int)) (z : Int), d = .lst (ps.map pairD) ∧ ρ[i]? = some (.val (.int z)) ∧ (∀ p ∈ ps, CDivW z p.2 ∧ MulOk p.1 (z / p.2)) ∧ P (.lst ((ps.mergeSort fun p q => decide (keyI z p ≤ keyI z q)).map pairD))) I
      ⟨F, ρ, _, E, S, w0, fun d v F1 H1 w1 S1 e1 r1 => ⟨v, d, F1, rfl, S1, e1, r1, w1⟩, hx⟩) fun us s1 ⟨vs0, H1, I1, rv, h1⟩ => ?_)
    (by rw [hs]; rfl) (by rw [hs]; rfl)
  obtain ⟨v, d, F1, rfl, S1, e1, r1, ps, z, rfl, hz, hb, hP⟩ := h1
  obtain ⟨a, vs, rfl, sl, rs⟩ := r1
  obtain rfl := Vals.ref1 rv
  refine wpAny_evalAll_cons (wpAny_bind (lam_mk I1 S1 L rfl hfree fun lf c' pm ctv H2 F2 s2 I2 S2 e2 ho hcd => wpAny_bind (wpAny_standAt (wpAny_pure (wpAny_evalAll_nil ?_)))))
  show wpAny _ _ (call (.builtin "sorted") [.ref a] [(Str.ofString "key", .ref lf)]) _ _ s2
  -- the list, the number
  have sl2 : SqL X.K H2 a vs := hK ▸ S2.gr.sub.seq (e2.seq sl)
  have rs2' := rs.mono e2
  obtain ⟨its, rvs, pl, hlen⟩ := I2.list sl2
  have hlps : ps.length = vs.length := by have := rs.length; rwa [List.length_map] at this
  obtain ⟨u, hu1, hu2⟩ := S2.slot i _ hz
  cases hu2
  have hσ : σ[i]? = some (some (V.int z)) := by
    cases q0 : σ[i]? with
    | none => rw [q0] at hu1; cases hu1
    | some o => rw [q0] at hu1; exact congrArg some hu1
  have yc : X.env.scope.names.lookup y = some .cell := by
    have := Ls.free (y, .free) (PySem.mem_of_lookup Ls.hy) rfl
    exact this
  obtain ⟨m, _, hl⟩ := I2.loc
  obtain ⟨u2, ru, lk⟩ := hl i y _ hN hσ (.inr (.inl yc))
  obtain ⟨tz, rfl⟩ := ru
  obtain ⟨cc, hc1, hC⟩ : ∃ cc, X.env.cells.lookup y = some cc ∧ s2.heap.IsCell cc (some (.int z tz)) := by
    rcases lk with ⟨k1, _⟩ | ⟨_, cc, k1, k2⟩
    · have k1 : X.env.scope.names.lookup y = some .local := k1
      rw [yc] at k1
      cases k1
    · exact ⟨cc, k1, k2⟩
  have hclo : (cloFrom X.env.cells scope.names []).lookup y = some cc := by
    obtain ⟨c3, h3⟩ := mem_lookup (cloFrom_has (cells := X.env.cells) (acc := []) (PySem.mem_of_lookup Ls.hy))
    rcases cloFrom_mem (PySem.mem_of_lookup h3) with hm | ⟨_, h4⟩
    · cases hm
    · rw [hc1] at h4
      rw [h3, h4]
      rfl
  have each : PySem.W.EachIs (SrtR c.K c.T F2 s2.heap) its (ps.zip vs) := srt_each (fun a ws st => by
    obtain ⟨its, w1, w2, _⟩ := I2.tuple (hK ▸ S2.gr.sub.sqT st : SqT X.K H2 a ws)
    exact ⟨its, w1, w2⟩) rs2' rvs
  refine PySem.W.sorted_key_data (b := false) (bs := ps.zip vs) (R := SrtR c.K c.T F2 s2.heap) (fun b => .int (keyI z b.1)) pl.isList each (PySem.W.AllAlike.of fun _ _ => rfl) (PySem.W.Sortable.others fun _ => ⟨(fun z => nomatch z), fun _ z => nomatch z⟩)
    (by rw [List.length_zip]; omega) (fun b _ => by show X.A.units + 2 + 0 < cLine; omega) (ksk_s1 _ _) (fun _ => ksk_l1 _ _) (fun _ => ksk_t1 _ _) (fun v b hR hbm h tk kp => ?_) fun out n h' tk kp fr hD _ eo => ?_
  · obtain ⟨_, _, a', t, u, rfl, hT⟩ := hR
    have hb1 : b.1 ∈ ps := (List.of_mem_zip hbm).1
    obtain ⟨hd, hM⟩ := hb _ hb1
    obtain ⟨c9, oc, vs9, t9, k1, k2, k3, k4⟩ := hcd
    obtain ⟨o9, g1, g2⟩ := hT
    obtain ⟨o8, f1, f2⟩ := hC
    exact lam_turn (s := { s2 with heap := h, toks := tk }) (n := b.1.1) (d := b.1.2) (show X.A.depth < recursionLimit from (L.ex.choose_spec.choose_spec.choose_spec.2.2.2.2.2).depth) Ls (kp _ _ ho) ⟨c9, oc, vs9, t9, k1, kp _ _ k2, k3, k4⟩ (I2.nolimit.keeps kp) lam_bind ⟨o9, kp _ _ g1, g2⟩ hclo ⟨o8, kp _ _ f1, f2⟩ hd hM
  · rw [PySem.W.dataLe_int] at eo
    obtain ⟨w1, w2⟩ := srt_back eo
    have np : H2 (s2.heap.objs.size + 1) = none := I2.hok.fresh (Nat.le_succ _)
    obtain ⟨S3, e3⟩ := S2.frozen np (.lst (((ps.zip vs).mergeSort fun a b => decide (keyI z a.1 ≤ keyI z b.1)).map (·.2))) (fun _ z => nomatch z)
    have hlen3 : (((ps.zip vs).mergeSort fun a b => decide (keyI z a.1 ≤ keyI z b.1)).map (·.2)).length ≤ sizeLine := by
      rw [List.length_map, List.length_mergeSort, List.length_zip]
      omega
    have hps : ((ps.zip vs).mergeSort fun a b => decide (keyI z a.1 ≤ keyI z b.1)).map (fun b => pairD b.1) = (ps.mergeSort fun p q => decide (keyI z p ≤ keyI z q)).map pairD := by
      have := List.map_mergeSort (l := ps.zip vs) (f := (·.1)) (r := fun a b => decide (keyI z a.1 ≤ keyI z b.1)) (s := fun p q => decide (keyI z p ≤ keyI z q)) fun _ _ _ _ => rfl
      rw [zip_fst ps vs hlps] at this
      rw [← this, List.map_map]
      rfl
    rw [hps] at w2
    refine ⟨.ref _, _, I2.laid (o := .lst (((ps.zip vs).mergeSort fun a b => decide (keyI z a.1 ≤ keyI z b.1)).map (·.2))) (t' := tk) kp (Nat.le_succ _) ⟨hlen3, _, n, w1, hD⟩, rfl, ?_⟩
    exact q _ _ _ _ hP S3 (e1.trans (e2.trans e3)) ⟨_, _, rfl, .inl (.inl upd_same), w2.mono e3⟩
end

/-! ### the check of the lambda's text -/
def isNmE (x : Str) : Expr → Bool
  | .Name z _ => decide (z = x)
  | _ => false
def isIxE (n : Int) (x : Str) : Expr → Bool
  | .Subscript a (.Constant (.int z) _ _) _ => isNmE x a && decide (z = n)
  | _ => false
def isDivE (x y : Str) : Expr → Bool
  | .BinOp a .FloorDiv b _ => isNmE y a && isIxE 1 x b
  | _ => false
def isKeyE (x y : Str) : Expr → Bool
  | .BinOp a .Mult b _ => isIxE 0 x a && isDivE x y b
  | _ => false
def isPar1 (x : Str) : List PySem.Arg → Bool
  | [⟨z, none, _⟩] => decide (z = x)
  | _ => false
def isPars (x : Str) (p : Arguments) : Bool := p.posonlyargs.isEmpty && isPar1 x p.args && p.vararg.isNone && p.kwonlyargs.isEmpty && p.kw_defaults.isEmpty && p.kwarg.isNone && p.defaults.isEmpty
def lamScB (sc scope : Scope) (x y : Str) : Bool := decide (scope.kind = .function) && !scope.isCoroutine && !scope.isGenerator && (scope.names.all fun z => !decide (z.2 = .cell) && (!decide (z.2 = .free) || decide (sc.names.lookup z.1 = some .cell))) && decide (scope.names.lookup x = some .local) && decide (scope.names.lookup y = some .free) &&
  !(x == ("__debug__" : Str)) && !(y == ("__debug__" : Str)) && !(y == ("__classdict__" : Str))
def ckSrt (N : List Str) (sc : Scope) (i : Nat) (x y : Str) : Expr → Bool
  | .Lambda pars body scope _ => isPars x pars && isKeyE x y body && lamScB sc scope x y && decide (N[i]? = some y)
  | _ => false
section
theorem and2' {a b : Bool} (h : (a && b) = true) : a = true ∧ b = true := Bool.and_eq_true_iff.mp h
theorem isNmE_of {x : Str} {e : Expr} (h : isNmE x e = true) : ∃ p, e = .Name x p := by
  cases e with
  | Name z p => exact ⟨p, by rw [of_decide_eq_true (show decide (z = x) = true from h)]⟩
  | _ => cases h
theorem isIxE_of {n : Int} {x : Str} {e : Expr} (h : isIxE n x e = true) : ∃ p1 k p2 p3, e = .Subscript (.Name x p1) (.Constant (.int n) k p2) p3 := by
  unfold isIxE at h
  split at h
  · obtain ⟨h1, h2⟩ := and2' h
    obtain ⟨p, rfl⟩ := isNmE_of h1
    obtain rfl := of_decide_eq_true h2
    exact ⟨_, _, _, _, rfl⟩
  · cases h
theorem isDivE_of {x y : Str} {e : Expr} (h : isDivE x y e = true) : ∃ p4 p5 k p6 p7 p8, e = .BinOp (.Name y p4) .FloorDiv (.Subscript (.Name x p5) (.Constant (.int 1) k p6) p7) p8 := by
  unfold isDivE at h
  split at h
  · obtain ⟨h1, h2⟩ := and2' h
    obtain ⟨p, rfl⟩ := isNmE_of h1
    obtain ⟨_, _, _, _, rfl⟩ := isIxE_of h2
    exact ⟨_, _, _, _, _, _, rfl⟩
  · cases h
theorem isKeyE_of {x y : Str} {e : Expr} (h : isKeyE x y e = true) : ∃ k0 k1 p1 p2 p3 p4 p5 p6 p7 p8 p9, e = lamBody x y k0 k1 p1 p2 p3 p4 p5 p6 p7 p8 p9 := by
  unfold isKeyE at h
  split at h
  · obtain ⟨h1, h2⟩ := and2' h
    obtain ⟨p1, k, p2, p3, rfl⟩ := isIxE_of h1
    obtain ⟨p4, p5, k', p6, p7, p8, rfl⟩ := isDivE_of h2
    exact ⟨_, _, _, _, _, _, _, _, _, _, _, rfl⟩
  · cases h
theorem isPars_of {x : Str} {p : Arguments} (h : isPars x p = true) : ∃ ap, p = lamPars x ap := by
  obtain ⟨a, b, c, d, e, f, g⟩ := p
  unfold isPars at h
  simp only [Bool.and_eq_true, List.isEmpty_iff, Option.isNone_iff_eq_none] at h
  obtain ⟨⟨⟨⟨⟨⟨rfl, h2⟩, rfl⟩, rfl⟩, rfl⟩, rfl⟩, rfl⟩ := h
  unfold isPar1 at h2
  split at h2
  · rename_i z p
    obtain rfl := of_decide_eq_true h2
    exact ⟨p, rfl⟩
  · cases h2
theorem ckSrt_of {N : List Str} {sc : Scope} {i : Nat} {x y : Str} {e : Expr} (h : ckSrt N sc i x y e = true) : ∃ ap k0 k1 p1 p2 p3 p4 p5 p6 p7 p8 p9 scope lpos, e = .Lambda (lamPars x ap) (lamBody x y k0 k1 p1 p2 p3 p4 p5 p6 p7 p8 p9) scope lpos ∧ LamSc sc scope x y ∧ N[i]? = some y := by
  unfold ckSrt at h
  split at h
  · rename_i pars body scope lpos
    obtain ⟨h, h4⟩ := and2' h
    obtain ⟨h, h3⟩ := and2' h
    obtain ⟨h1, h2⟩ := and2' h
    obtain ⟨ap, rfl⟩ := isPars_of h1
    obtain ⟨k0, k1, p1, p2, p3, p4, p5, p6, p7, p8, p9, rfl⟩ := isKeyE_of h2
    refine ⟨ap, k0, k1, p1, p2, p3, p4, p5, p6, p7, p8, p9, scope, lpos, rfl, ?_, of_decide_eq_true h4⟩
    unfold lamScB at h3
    simp only [Bool.and_eq_true, Bool.or_eq_true, Bool.not_eq_true', decide_eq_true_eq, decide_eq_false_iff_not, List.all_eq_true] at h3
    obtain ⟨⟨⟨⟨⟨⟨⟨⟨g1, g2⟩, g3⟩, g4⟩, g5⟩, g6⟩, g7⟩, g8⟩, g9⟩ := h3
    refine ⟨g1, g2, g3, fun z hz => (g4 z hz).1, g5, g6, fun z hz e => ?_, g7, g8, g9⟩
    rcases (g4 z hz).2 with q | q
    · exact absurd e q
    · exact q
  · cases h
end

/-! ### range of three -/
def wRg3 (a b k : WE) : WI := fun ρ P E => a ρ (fun d => isInt d fun i => b ρ (fun d => isInt d fun j => k ρ (fun d => isInt d fun z => ∃ n, RgC i j z n ∧ P ((List.range n).map fun t => .int (i + (t : Nat) * z))) E) E) E
section
variable {c : Ct} {X : Cx} {tg : Expr}
theorem walk_rg3 {G : Hp} {i z : Int} {n : Nat} : Walk c (Itc i z n) G ((List.range n).map fun t => .int (i + (t : Nat) * z)) where
  go := fun t F H _ _ hi => by rw [List.length_map, List.length_range] at hi; exact hi
  stop := fun t F H _ _ hi => by rw [List.length_map, List.length_range] at hi; exact hi
  yld := fun sf F0 B t d F H σ ρ e S hG x H' hy => by
    obtain ⟨rfl, rfl⟩ := hy
    refine ⟨F, S, Same.refl F, ?_⟩
    rw [List.getElem?_map] at e
    cases q : (List.range n)[t]? with
    | none => rw [q] at e; cases e
    | some u =>
      rw [q] at e
      obtain ⟨hu, rfl⟩ := List.getElem?_eq_some_iff.mp q
      cases e
      rw [List.getElem_range]
      rfl
theorem li_rg3 {f : Str} {a b k : Expr} {p pos : Pos} {wa wb wk : WE} (hf : f = "range") (hg : Gl X f) (hm : X.mg f = none) (ha : PE X a (liftE c wa)) (hb : PE X b (liftE c wb)) (hk : PE X k (liftE c wk)) (hs : starEach [a, b, k] X.env = (false, eval a X.env) :: starEach [b, k] X.env)
    (hs2 : starEach [b, k] X.env = (false, eval b X.env) :: starEach [k] X.env) (hs3 : starEach [k] X.env = (false, eval k X.env) :: starEach [] X.env) : PI X tg (.Call (.Name f p) [a, b, k] [] pos) (liftI c (wRg3 wa wb wk)) := by
  subst hf
  refine pi_weak (pi_range3 hg hm (pa_cons ha (pa_cons hb (pa_cons hk pa_nil hs3) hs2) hs) hs (by rw [hs2, hs3]; rfl)) fun σ H Q ⟨F, ρ, P, E, S, w, q, x⟩ => ⟨F, ρ, _, E, S, w, fun d v F1 H1 w1 S1 e1 r1 => ?_, x⟩
  obtain ⟨i, rfl, w1⟩ := isInt_of w1
  refine ⟨F1, ρ, _, E, S1, w1, fun d2 v2 F2 H2 w2 S2 e2 r2 => ?_, x.up e1⟩
  obtain ⟨j, rfl, w2⟩ := isInt_of w2
  refine ⟨F2, ρ, _, E, S2, w2, fun d3 v3 F3 H3 w3 S3 e3 r3 => ?_, x.up (e1.trans e2)⟩
  obtain ⟨z, rfl, n, h1, w3⟩ := isInt_of w3
  cases r1; cases r2; cases r3
  exact ⟨i, j, z, n, rfl, h1, q _ _ F3 H3 w3 S3 (e1.trans (e2.trans e3)) walk_rg3⟩
end
end Tr

namespace Tr
open PySem PySem.Spec PyProof.Rows L2

/-! ### calls without arguments -/
section
variable {X : Cx} {c : Ct}
theorem pe_callS0 {CX : CXT} {k : Nat} {f : Addr} {fd : FuncData} {ps : List Str} {sp : Sp} {E : L2.St → XK} {x : Str} {p pos : Pos} (F : FnOk X.prog X.w X.K X.mg X.base CX k f fd ps sp) (hr : Room k X.A) (hg : Gl X x) (hm : X.mg x = some (.ref f)) (hk : PySem.W.keepIn X.K (.ref f) = true) (hb : Binds X.K fd ps []) (hx : ∀ σ, PassesAt CX X σ (E σ))
    (hdb : (x == ("__debug__" : Str)) = false) : PE X (.Call (.Name x p) [] [] pos) (fun σ H Q => sp [] H Q (E σ)) := by
  refine ⟨fun pins s σ H Q I h => ?_⟩
  refine wpAny_Call_Name_kw (ld_glob I hg hm ?_ hdb)
  exact PySem.W.callWith_K0 I.kIn hk (run_fnS (us := []) F hr hb (hx σ) I .nil h)
theorem lv_call0 {k : Nat} {f : Addr} {fd : FuncData} {ps : List Str} {w : List D → WD} {x : Str} {p pos : Pos} (tk : Takes X c.W)
    (Fo : FnOk X.prog X.w X.K X.mg X.base (L2.CX X.prog X.w) k f fd ps (spF c.K c.T ps.length w)) (hw : ∀ ds P E, w ds P E → ds.length = ps.length) (hr : Room k X.A) (hg : Gl X x) (hm : X.mg x = some (.ref f)) (hk : PySem.W.keepIn X.K (.ref f) = true) (hb : Binds X.K fd ps [])
    (hdb : (x == ("__debug__" : Str)) = false) : PE X (.Call (.Name x p) [] [] pos) (liftE c (wN w wNil)) := by
  refine pe_weak (pe_callS0 Fo hr hg hm hk hb (fun σ => passAt tk σ) hdb) fun σ H Q ⟨F, ρ, P, E, S, w, q, x⟩ => ?_
  have r0 : Rs c.K c.T F [] [] := rfl
  exact call_F S (hw [] P E w) r0 w q x
end
/-! ### a module's tuple of texts -/
theorem rs_strs {K : PySem.W.Frag} {T : Tab} {F : Hp} : ∀ ss : List Str, Rs K T F (ss.map D.str) (ss.map V.str)
  | [] => rfl
  | s :: ss => ⟨.str s, _, rfl, rfl, rs_strs ss⟩
theorem con_tup {K : PySem.W.Frag} {T : Tab} {a : Addr} {eo : Option Addr} {n : Nat} {es : Array (Option Value)} {its : Array Value} (ss : List Str) (hk : K.lookup a = some ⟨.type "tuple", eo, .seq its n, es⟩) (hl : its.size ≤ 1000) (hv : Vals (ss.map V.str) its.toList) : R K T (fun _ => none) (.tup (ss.map D.str)) (.ref a) :=
  ⟨a, _, rfl, .inr ⟨_, _, _, hk, rfl, rfl, Nat.le_trans hl (by decide), hv⟩, rs_strs ss⟩
/-! ### {x: True for x in xs}, xs tuples -/
def keyOk : D → Bool
  | .tup ds => (match nkeys ds with | some ks => decide ((NestedKey.tup ks).depth ≤ 8) | none => false)
  | _ => false
def insK (ks : List D) (d : D) : List D := if (ks.any fun y => decide (nkey y = nkey d)) = true then ks else ks ++ [d]
def wDct (i : Nat) (vs : List Nat) (wi : WI) : WE := fun ρ P E => noOwn ρ vs = true ∧ i < ρ.length ∧ wi ρ (fun items => items.length ≤ 1000 ∧ (∀ d ∈ items, keyOk d = true) ∧ P (.dct (items.foldl insK []))) E
theorem keyOk_of {d : D} (h : keyOk d = true) : ∃ ds k, d = .tup ds ∧ nkey d = some k ∧ k.depth ≤ 8 := by
  cases d with
  | tup ds =>
    unfold keyOk at h
    simp only at h
    cases e : nkeys ds with
    | none => rw [e] at h; cases h
    | some ks =>
      rw [e] at h
      exact ⟨ds, .tup ks, rfl, by show (nkeys ds).map NestedKey.tup = _; rw [e]; rfl, of_decide_eq_true h⟩
  | _ => cases h
/-- the entries of a dict that is being made -/
structure EntR (c : Ct) (F : Hp) (ks : List D) (xs : Ents) : Prop where
  k : xs.map (fun x => some x.1) = ks.map nkey
  d : ∀ z ∈ xs, z.1.depth ≤ 8
  r : Rs c.K c.T F ks (xs.map fun x => .ref x.2.1)
theorem EntR.mono {c : Ct} {F F' : Hp} {ks : List D} {xs : Ents} (h : EntR c F ks xs) (e : Same F F') : EntR c F' ks xs := ⟨h.k, h.d, h.r.mono e⟩
theorem atKey_any (xs : Ents) (k : NestedKey) : (atKey xs k).isSome = xs.any fun z => decide (z.1 = k) := by
  rw [← any_pairsH]
  show (xs.map _).any _ = _
  rw [List.any_map]
  rfl
theorem EntR.ins {c : Ct} {F : Hp} {ks : List D} {xs : Ents} {d : D} {k : NestedKey} {a : Addr} {u : Value} (h : EntR c F ks xs) (e : nkey d = some k) (dk : k.depth ≤ 8) (r : R c.K c.T F d (.ref a)) : EntR c F (insK ks d) (storedH xs k a u) := by
  have ea : (atKey xs k).isSome = ks.any fun y => decide (nkey y = nkey d) := by rw [atKey_any, keys_any h.k, e]
  unfold insK storedH
  rw [ea]
  split
  · have m1 : (xs.map (putAt k u)).map (fun x => some x.1) = xs.map fun x => some x.1 := by
      rw [List.map_map]
      refine List.map_congr_left fun x _ => ?_
      unfold putAt
      simp only [Function.comp]
      split <;> rfl
    have m2 : (xs.map (putAt k u)).map (fun x => V.ref x.2.1) = xs.map fun x => V.ref x.2.1 := by
      rw [List.map_map]
      refine List.map_congr_left fun x _ => ?_
      unfold putAt
      simp only [Function.comp]
      split <;> rfl
    refine ⟨by rw [m1]; exact h.k, fun z hz => ?_, by rw [m2]; exact h.r⟩
    obtain ⟨y, hy, rfl⟩ := List.mem_map.mp hz
    unfold putAt
    split
    · exact h.d y hy
    · exact h.d y hy
  · refine ⟨by rw [List.map_append, List.map_append, h.k]; simp [e], fun z hz => ?_, ?_⟩
    · rcases List.mem_append.mp hz with z1 | z1
      · exact h.d z z1
      · have : z = (k, a, u) := by simpa using z1
        subst this
        exact dk
    · rw [List.map_append]
      exact h.r.append (Rs.one r)
theorem wipeR_len (ρ : List Slot) : ∀ vs : List Nat, (wipeR ρ vs).length = ρ.length
  | [] => rfl
  | v :: vs => by
    show ((wipeR ρ vs).set v .emp).length = _
    rw [List.length_set, wipeR_len ρ vs]
section
variable {c : Ct} {X : Cx}
theorem dn_read {i : Nat} {vs : List Nat} {wi : WI} {σ : L2.St} {H : Hp} {Q : VK} (hK : X.K = c.K) (hP : X.prog = c.T.pr) (hW : X.w = c.T.wd) (hi : i ∈ vs) : liftE c (wDct i vs wi) σ H Q → tDn X (liftI c wi) (anyG c [i] (gN i)) (anyE c (wVar i)) (anyE c (wC (.bl true))) vs σ H Q := by
  rintro ⟨F, ρ, P, E, S, ⟨no, il, w⟩, q, x⟩
  refine ⟨F, ρ, _, E, S, w, fun items J F1 H1 w1 S1 e1 k Dl nD => ?_, x⟩
  obtain ⟨hl, hk, w1⟩ := w1
  have f0 : c.F0 Dl = none := S1.gr.old.free (S1.gr.sub.free nD)
  have b0 : c.B Dl = none := S1.gr.keep.free nD
  refine ⟨fun j m H' => ∃ F' G xs, H' = upd G Dl (DxO X.prog X.w Dl xs) ∧ G Dl = none ∧ c.S F' G σ ρ ∧ Same F1 F' ∧ j ≤ items.length ∧ m = items.length - j ∧ xs.length ≤ j ∧ EntR c F' ((items.take j).foldl insK []) xs,
    ⟨items.length, F1, H1, [], rfl, nD, S1, Same.refl F1, Nat.zero_le _, rfl, Nat.le_refl _, ⟨by simp, (fun _ z => nomatch z), by rw [List.take_zero]; exact rfl⟩⟩, ?_⟩
  rintro j m H' ⟨F', G, xs, rfl, gD, S', e', hj, rfl, lx, er⟩
  have SE := S'.enter gD (DxO X.prog X.w Dl xs)
  by_cases hlt : j < items.length
  · refine .inr ⟨k.go j F' _ e' SE.gr.sub hlt, fun H2 => ∃ F2 G2 xs2, H2 = upd G2 Dl (DxO X.prog X.w Dl xs2) ∧ G2 Dl = none ∧ c.S F2 G2 σ ρ ∧ Same F1 F2 ∧ xs2.length ≤ j + 1 ∧ EntR c F2 ((items.take (j + 1)).foldl insK []) xs2,
      fun H2 ⟨F2, G2, xs2, h1, h2, h3, h4, h5, h6⟩ => ⟨items.length - (j + 1), by omega, F2, G2, xs2, h1, h2, h3, h4, hlt, rfl, h5, h6⟩, fun y H2 hy => ?_⟩
    have ed : items[j]? = some items[j] := List.getElem?_eq_getElem hlt
    obtain ⟨F2, S2, e2, r2⟩ := k.yld _ _ _ j _ F' _ σ ρ ed SE e' y H2 hy
    have S2w := Stt.wipe (c := c.at (upd c.B Dl (DxO X.prog X.w Dl xs))) S2 vs
    obtain ⟨ds, kk, ed1, ek, dk⟩ := keyOk_of (hk _ (List.getElem_mem hlt))
    have lw : i < (wipeR ρ vs).length := by rw [wipeR_len]; exact il
    have r2' := r2
    rw [ed1] at r2'
    obtain ⟨a, us, rfl, st, rr⟩ := r2'
    refine ⟨_, F2, _, _, fun ρ' => ρ' = (wipeR ρ vs).set i (.val items[j]), S2w, r2, rfl, fun ρ3 σ3 F3 H3 w3 S3 e3 on => ⟨(on vs (fun t ht => by rw [List.mem_singleton.mp ht]; exact hi)).1.trans (wipe_all fun _ z => z), ?_⟩⟩
    subst w3
    have onv := on vs (fun t ht => by rw [List.mem_singleton.mp ht]; exact hi)
    -- the key is read from its slot
    refine ⟨_, F3, _, fun d => d = items[j], fun _ => False, S3, ?_, fun d v F4 H4 w4 S4 e4 r4 => ?_, fun _ _ _ _ _ z => z.elim⟩
    · show wVar i ((wipeR ρ vs).set i (.val items[j])) _ _
      unfold wVar
      rw [List.getElem?_set_self lw]
    subst w4
    refine ⟨_, F4, _, fun d => d = .bl true, fun _ => False, S4, rfl, fun d5 v5 F5 H5 w5 S5 e5 r5 => ?_, fun _ _ _ _ _ z => z.elim⟩
    subst w5
    cases r5
    have S6 := Stt.wipe (c := c.at (upd c.B Dl (DxO X.prog X.w Dl xs))) S5 vs
    rw [onv.1, onv.2, wipe_all fun _ z => z, wipeR_all fun _ z => z] at S6
    obtain ⟨h1, S7⟩ := S6.leave b0 f0
    have S8 := Stt.unwipe S' S7 (e2.trans ((e3.trans e4).trans e5)) no
    have up : Same F' F5 := e2.trans ((e3.trans e4).trans e5)
    have r4' := r4.mono e5
    have nk := nk_of r4' ek
    have r4t := r4
    rw [ed1] at r4t
    obtain ⟨a4, us4, rfl, _, _⟩ := r4t
    have er5 := er.mono up
    refine ⟨xs, a4, kk, rfl, h1, by omega, ?_, ?_, dk, fun u hu => ⟨F5, cut H5 Dl, storedH xs kk a4 u, upd_cut.symm, cut_same, S8, e'.trans up, ?_, ?_⟩⟩
    · rw [hK]
      exact (keys_at er5.k er5.d er5.r).up S5.gr.sub.tup
    · rw [hK]
      exact nk.up S5.gr.sub.tup
    · unfold storedH
      split
      · rw [List.length_map]; omega
      · rw [List.length_append, List.length_singleton]; omega
    · have et : items.take (j + 1) = items.take j ++ [items[j]] := by rw [List.take_add_one, ed]; rfl
      rw [et, List.foldl_append]
      exact er5.ins ek dk r4'
  · have en : j = items.length := by omega
    subst en
    refine .inl ⟨k.stop _ F' _ e' SE.gr.sub (Nat.le_refl _), ?_⟩
    rw [List.take_length] at er
    obtain ⟨S9, e9⟩ := S'.frozen gD (DxO X.prog X.w Dl xs) (fun i z => by unfold DxO mkr at z; cases z)
    refine q _ _ _ _ w1 S9 ((e1.trans e').trans e9) ⟨Dl, xs, rfl, ?_, er.k, er.d, er.r.mono e9⟩
    rw [← hP, ← hW]
    exact upd_same
theorem lv_dct {i j : Nat} {x : Str} {iter : Expr} {scope : Scope} {own : List (Str × Nat)} {p1 p2 p3 pos : Pos} {wi : WI} (hK : X.K = c.K) (hP : X.prog = c.T.pr) (hW : X.w = c.T.wd) (hu : X.A.units + 64 < cLine) (hc : X.calm = true) (hN : X.N.Nodup) (hi : PI X (.Name x p3) iter (liftI c wi)) (ok : BlkOk X.N X.env.scope scope own) (hs1 : i ∈ own.map (·.2))
    (hg : ∀ (s : Shared) (H : Hp) (Cc : Addr) (cl : List (Str × Addr)) (fp : List Addr) (B : Hp), PG (X.blk s H scope (compEnvC scope cl Cc X.env) fp) (.Name x p3) (liftG (c.at B) [i] (gN i)))
    (hk : ∀ (s : Shared) (H : Hp) (Cc : Addr) (cl : List (Str × Addr)) (fp : List Addr) (B : Hp), PE (X.blk s H scope (compEnvC scope cl Cc X.env) fp) (.Name x p1) (liftE (c.at B) (wVar i)))
    (he : ∀ (s : Shared) (H : Hp) (Cc : Addr) (cl : List (Str × Addr)) (fp : List Addr) (B : Hp), PE (X.blk s H scope (compEnvC scope cl Cc X.env) fp) (.Constant (.bool true) j p2) (liftE (c.at B) (wC (.bl true)))) (hs : ∀ y, foldedSetIterable iter X.env y = pure y) :
    PE X (.DictComp (.Name x p1) (.Constant (.bool true) j p2) [⟨.Name x p3, iter, [], 0⟩] scope pos) (liftE c (wDct i (own.map (·.2)) wi)) :=
  pe_weak (pe_dn hu hc hN hi ok (fun s H C cl fp => any_g (hg s H C cl fp)) (fun s H C cl fp => any_e (hk s H C cl fp)) (fun s H C cl fp => any_e (he s H C cl fp)) hs) fun σ H Q => dn_read hK hP hW hs1
end
/-! ### a thing among a list of one's own; where a thing stands -/
def wInO (neg : Bool) (w : WE) (i : Nat) : WE := fun ρ P E => ownL ρ i fun ds => w ρ (fun d => inG neg d ds P E) E
section
variable {c : Ct} {X : Cx}
theorem inO_rd {neg : Bool} {we : WE} {i : Nat} (hK : X.K = c.K) (σ : L2.St) (H : Hp) (Q : VK) : liftE c (wInO neg we i) σ H Q → tOp (rInA X.K neg) (liftE c we) (tVar i) σ H Q := by
  rintro ⟨F, ρ, P, E, S, w, q, qx⟩
  obtain ⟨ds, e0, w⟩ := ownL_of w
  refine ⟨F, ρ, _, _, S, w, fun d v F1 H1 w1 S1 e1 r1 => ?_, qx⟩
  obtain ⟨b, u2, k1, k2, ⟨us, rfl, r3⟩, k4, k5⟩ := S1.ownAt e0
  obtain ⟨h1, h2, h3, w1⟩ := w1
  exact ⟨.ref b, k1, _, toPs ds, hK ▸ dp_of _ _ S1.gr.sub d v r1 (.inr h1), .inl (hK ▸ .lst (.inl (.inl k2)) (dps_of _ _ S1.gr.sub ds us r3 h3)), h1, h3, h2, q _ _ F1 H1 w1 S1 e1 rfl⟩
theorem lv_inO {neg : Bool} {op : CmpOp} {e : Expr} {we : WE} {i : Nat} {x : Str} {p1 pos : Pos} (hK : X.K = c.K) (ho : OpR X (compareOp op) (rInA X.K neg)) (he : PE X e (liftE c we)) (hN : X.N[i]? = some x) (hv : Vis X.env.scope x) (hd : (x == ("__debug__" : Str)) = false) (hcd : (x == ("__classdict__" : Str)) = false) (hm : behindInMarks op (.Name x p1) = false) :
    PE X (.Compare e [op] [.Name x p1] pos) (liftE c (wInO neg we i)) := pe_weak (pe_cmpR ho he (pe_var hN hv hd hcd) hm) (inO_rd hK)
theorem lt_inO {neg : Bool} {op : CmpOp} {e : Expr} {we : WE} {i : Nat} {x : Str} {p1 pos : Pos} (hK : X.K = c.K) (ho : OpR X (compareOp op) (rInA X.K neg)) (he : PE X e (liftE c we)) (hN : X.N[i]? = some x) (hv : Vis X.env.scope x) (hd : (x == ("__debug__" : Str)) = false) (hcd : (x == ("__classdict__" : Str)) = false) (hm : behindInMarks op (.Name x p1) = false) :
    PT X (.Compare e [op] [.Name x p1] pos) (liftT c (wTst (wInO neg we i))) := pt_weak (pt_cmpR ho he (pe_var hN hv hd hcd) hm) (tst (inO_rd hK))
/-- xs.index(y), whole numbers -/
def dIdx (ds : List D) (y : D) : WD := fun P _ => ∃ (ns : List Int) (n : Int) (j : Nat), ds = ns.map .int ∧ y = .int n ∧ ns[j]? = some n ∧ (∀ m, m < j → ns[m]? ≠ some n) ∧ P (.int j)
def wIdx (wo we : WE) : WE := fun ρ P E => wo ρ (fun d => isLst d fun ds => we ρ (fun y => dIdx ds y P E) E) E
theorem lv_idx {o e : Expr} {m : Str} {p2 p3 : Pos} {wo we : WE} (hK : X.K = c.K) (hm : m = "index") (ho : PE X o (liftE c wo)) (he : PE X e (liftE c we)) (hbase : attributeBase o m X.env (eval o X.env) = eval o X.env) (hline : (p2.endLine == p3.line) = true) (hs : starEach [e] X.env = (false, eval e X.env) :: starEach [] X.env) :
    PE X (.Call (.Attribute o m p2) [e] [] p3) (liftE c (wIdx wo we)) := by
  subst hm
  have hfew : ((backTo p3 (starEach [e] X.env)).all (fun x => !x.1) && (backToKw p3 (keywordEach [] X.env)).all (fun x => x.1.isSome)
      && decide (([e] : List Expr).length + ([] : List Keyword).length + (if ([] : List Keyword).isEmpty then 0 else 1) < 30)) = true := by rw [hs]; rfl
  refine pe_weak (pe_bm PySem.F.plainAttrs_list PySem.F.slot_list_index PySem.F.type_list_index mt_index ho (pa_cons he pa_nil hs) hbase hfew hline hs rfl) fun σ H Q ⟨F, ρ, P, E, S, w, q, x⟩ => ⟨F, ρ, _, E, S, w, fun d v F1 H1 w1 S1 e1 r1 => ?_, x⟩
  cases d with
  | lst ds =>
    obtain ⟨a, vs, rfl, s1, r2⟩ := r1
    refine ⟨.inl ⟨rfl, vs, hK ▸ S1.gr.sub.seq s1⟩, F1, ρ, _, E, S1, w1, fun y u F2 H2 w2 S2 e2 r3 => ?_, x.up e1⟩
    obtain ⟨ns, n, j, rfl, rfl, hj, hno, w2⟩ := w2
    cases r3
    have ev := rs_ints r2
    subst ev
    have at_ : ∀ (m : Nat) (z : V), (ns.map V.int)[m]? = some z → ∃ i, ns[m]? = some i ∧ z = V.int i := fun m z h => by
      rw [List.getElem?_map] at h
      cases q : ns[m]? with
      | none => rw [q] at h; cases h
      | some i => rw [q] at h; cases h; exact ⟨i, rfl, rfl⟩
    refine ⟨a, ns.map V.int, V.int n, j, V.int n, rfl, rfl, hK ▸ S2.gr.sub.seq (e2.seq s1), rfl, ?_, by rw [List.getElem?_map, hj]; rfl, ?_, fun m z hm hz => ?_, q _ _ F2 H2 w2 S2 (e1.trans e2) rfl⟩
    · rw [List.all_eq_true]
      intro z hz
      obtain ⟨i, _, rfl⟩ := List.mem_map.mp hz
      rfl
    · show (n == n) = true
      exact beq_self_eq_true n
    · obtain ⟨i, hi, rfl⟩ := at_ m z hz
      have : i ≠ n := fun z => hno m hm (by rw [hi, z])
      show (i == n) = false
      exact beq_eq_false_iff_ne.mpr this
  | _ => exact False.elim w1
end
end Tr

namespace Tr
open PySem PySem.Spec PyProof.Rows L2
/-! ### dicts of one's own, their keys whole numbers or texts -/
def keyD : Key → D
  | .inl i => .int i
  | .inr s => .str s
def dKey : D → (Key → Prop) → Prop
  | .int i, P => P (.inl i)
  | .str s, P => P (.inr s)
  | _, _ => False
def hasK (kvs : List (Key × D)) (k : Key) : Bool := kvs.any fun x => decide (x.1 = k)
def putD (kvs : List (Key × D)) (k : Key) (d : D) : List (Key × D) := if hasK kvs k = true then kvs.map (fun x => if x.1 = k then (x.1, d) else x) else kvs ++ [(k, d)]
def valD (kvs : List (Key × D)) (k : Key) : Option D := (kvs.find? fun x => decide (x.1 = k)).map (·.2)
def ownD (ρ : List Slot) (i : Nat) (P : List (Key × D) → Prop) : Prop := match ρ[i]? with | some (.own (.dct kvs)) => P kvs | _ => False
def sNewD (i : Nat) : WS := fun A ρ => A.nx (ρ.set i (.own (.dct [])))
def sPutD (i : Nat) (wk w : WE) : WS := fun A ρ => ownD ρ i fun kvs => w ρ (fun d => wk ρ (fun y => dKey y fun k => kvs.length < sizeLine ∧ A.nx (ρ.set i (.own (.dct (putD kvs k d))))) (fun x => A.xe x ρ)) (fun x => A.xe x ρ)
def wGetD (i : Nat) (wk : WE) : WE := fun ρ P E => ownD ρ i fun kvs => wk ρ (fun y => dKey y fun k => hasI (valD kvs k) P) E
def wLenD (i : Nat) : WE := fun ρ P _ => ownD ρ i fun kvs => P (.int kvs.length)
def wKeysD (i : Nat) : WE := fun ρ P _ => ownD ρ i fun kvs => P (.lst (kvs.map fun x => keyD x.1))
section
variable {c : Ct} {X : Cx} {F H : Hp} {σ : L2.St} {ρ : List Slot} {K : PySem.W.Frag} {T : Tab}
theorem ownD_of {i : Nat} {P : List (Key × D) → Prop} (h : ownD ρ i P) : ∃ kvs, ρ[i]? = some (.own (.dct kvs)) ∧ P kvs := by
  unfold ownD at h
  split at h
  · exact ⟨_, by assumption, h⟩
  · exact h.elim
theorem dKey_of {y : D} {v : V} {P : Key → Prop} (r : R K T F y v) (h : dKey y P) : ∃ k, v = kV k ∧ P k := by
  cases y with
  | int i => cases r; exact ⟨.inl i, rfl, h⟩
  | str s => cases r; exact ⟨.inr s, rfl, h⟩
  | _ => exact False.elim h
theorem KD.length : ∀ {kvs : List (Key × D)} {vs : List (Key × V)}, KD K T F kvs vs → kvs.length = vs.length
  | [], [], _ => rfl
  | _ :: _, _ :: _, q => congrArg Nat.succ (KD.length q.2.2)
  | [], _ :: _, q => q.elim
  | _ :: _, [], q => q.elim
theorem KD.has (k : Key) : ∀ {kvs : List (Key × D)} {vs : List (Key × V)}, KD K T F kvs vs → (vs.any fun kv => decide (kv.1 = k)) = hasK kvs k
  | [], [], _ => rfl
  | x :: _, y :: _, q => by
    show (decide (y.1 = k) || _) = (decide (x.1 = k) || _)
    rw [q.1, KD.has k q.2.2]
    rfl
  | [], _ :: _, q => q.elim
  | _ :: _, [], q => q.elim
theorem KD.append : ∀ {kvs : List (Key × D)} {vs : List (Key × V)} {k : Key} {d : D} {v : V}, KD K T F kvs vs → R K T F d v → KD K T F (kvs ++ [(k, d)]) (vs ++ [(k, v)])
  | [], [], _, _, _, _, r => ⟨rfl, r, trivial⟩
  | _ :: _, _ :: _, _, _, _, q, r => ⟨q.1, q.2.1, KD.append q.2.2 r⟩
  | [], _ :: _, _, _, _, q, _ => q.elim
  | _ :: _, [], _, _, _, q, _ => q.elim
theorem KD.repl : ∀ {kvs : List (Key × D)} {vs : List (Key × V)} {k : Key} {d : D} {v : V}, KD K T F kvs vs → R K T F d v → KD K T F (kvs.map fun x => if x.1 = k then (x.1, d) else x) (vs.map fun kv => if kv.1 = k then (kv.1, v) else kv)
  | [], [], _, _, _, _, r => trivial
  | x :: _, y :: _, k, d, v, q, r => by
    refine ⟨?_, ?_, KD.repl q.2.2 r⟩
    · show (if x.1 = k then (x.1, d) else x).1 = (if y.1 = k then (y.1, v) else y).1
      by_cases z : x.1 = k
      · rw [if_pos z, if_pos (q.1 ▸ z)]; exact q.1
      · rw [if_neg z, if_neg (q.1 ▸ z)]; exact q.1
    · show R K T F (if x.1 = k then (x.1, d) else x).2 (if y.1 = k then (y.1, v) else y).2
      by_cases z : x.1 = k
      · rw [if_pos z, if_pos (q.1 ▸ z)]; exact r
      · rw [if_neg z, if_neg (q.1 ▸ z)]; exact q.2.1
  | [], _ :: _, _, _, _, q, _ => q.elim
  | _ :: _, [], _, _, _, q, _ => q.elim
theorem KD.put {kvs : List (Key × D)} {vs : List (Key × V)} {k : Key} {d : D} {v : V} (q : KD K T F kvs vs) (r : R K T F d v) : KD K T F (putD kvs k d) (putK vs k v) := by
  unfold putD putK
  rw [q.has k]
  split
  · exact q.repl r
  · exact q.append r
theorem KD.val {k : Key} : ∀ {kvs : List (Key × D)} {vs : List (Key × V)} {d : D}, KD K T F kvs vs → valD kvs k = some d → ∃ v, valV vs k = some v ∧ R K T F d v
  | [], [], _, _, e => nomatch e
  | x :: r, y :: _, d, q, e => by
    by_cases z : x.1 = k
    · rw [show valD (x :: r) k = some x.2 by simp [valD, List.find?_cons, z]] at e
      cases e
      exact ⟨y.2, valV_pos (q.1 ▸ z), q.2.1⟩
    · rw [show valD (x :: r) k = valD r k by simp [valD, List.find?_cons, z]] at e
      obtain ⟨v, h1, h2⟩ := KD.val q.2.2 e
      exact ⟨v, by rw [valV_neg (q.1 ▸ z)]; exact h1, h2⟩
  | [], _ :: _, _, q, _ => q.elim
  | _ :: _, [], _, q, _ => q.elim
theorem R_key (k : Key) : R K T F (keyD k) (kV k) := by cases k <;> rfl
theorem KD.keys : ∀ {kvs : List (Key × D)} {vs : List (Key × V)}, KD K T F kvs vs → Rs K T F (kvs.map fun x => keyD x.1) (vs.map fun kv => kV kv.1)
  | [], [], _ => by simp [Rs]
  | x :: _, y :: _, q => by
    have := KD.keys q.2.2
    simp only [List.map_cons, Rs]
    exact ⟨_, _, rfl, by rw [← q.1]; exact R_key _, this⟩
  | [], _ :: _, q => q.elim
  | _ :: _, [], q => q.elim
theorem ls_newD {i : Nat} {x : Str} {p' p2 pos : Pos} (hN : X.N.Nodup) (hi : X.N[i]? = some x) (hx : Loc X.env.scope x) (hf : X.fn x = true ∨ X.env.scope.names.lookup x = some .local) (hs : swapsWith (.Dict [] [] p2) (some (.Name x p')) pos.line X.env = pure false) : PS X (.Assign [.Name x p'] (.Dict [] [] p2) pos) (liftS c (sNewD i)) := by
  refine ps_weak (ps_set hN hi hx pe_dnewK hs hf) fun D0 σ H ⟨F, ρ, A, S, w, q⟩ p np => ?_
  exact q.nx _ _ F _ w (S.own i np (o := .dct []) ⟨[], rfl, trivial⟩ fun _ _ _ z => nomatch z) (Same.refl F)
theorem ls_putD {i : Nat} {x : Str} {p1 p2 pos : Pos} {k e : Expr} {wk w : WE} (hu : X.A.units + 64 < cLine) (hN : X.N[i]? = some x) (hv : Vis X.env.scope x) (hd : (x == ("__debug__" : Str)) = false) (hcd : (x == ("__classdict__" : Str)) = false) (he : PE X e (liftE c w)) (hk : PE X k (liftE c wk))
    (hs : swapsWith e (some (.Subscript (.Name x p1) k p2)) pos.line X.env = pure false) : PS X (.Assign [.Subscript (.Name x p1) k p2] e pos) (liftS c (sPutD i wk w)) := by
  refine ps_weak (ps_dput (by omega) (pe_var hN hv hd hcd) hk he hs) fun D0 σ H ⟨F, ρ, A, S, w, q⟩ => ?_
  obtain ⟨kvs, e, w⟩ := ownD_of w
  obtain ⟨a, u, g1, g2, ⟨vs, rfl, r⟩, g4, g5⟩ := S.ownAt e
  refine ⟨F, ρ, _, _, S, w, fun d v F1 H1 w1 S1 e1 r1 => ⟨.ref a, g1, F1, ρ, _, _, S1, w1, fun y v2 F2 H2 w2 S2 e2 r2 => ?_, (q.qX σ ρ).up e1⟩, q.qX σ ρ⟩
  obtain ⟨k, rfl, hl, w2⟩ := dKey_of r2 w2
  obtain ⟨b, u, k1, k2, ⟨us, rfl, r3⟩, k4, k5⟩ := S2.ownAt e
  rw [g1] at k1
  cases k1
  exact ⟨a, _, rfl, DPut.k k2 (by rw [← r3.length]; exact hl), q.nx _ _ F2 _ w2 (S2.write e g1 (o' := .dct (putD kvs k d)) ⟨putK us k v, rfl, r3.put (r1.mono e2)⟩ fun _ _ _ z => nomatch z) (e1.trans e2)⟩
theorem lv_lenD {i : Nat} {x f : Str} {p1 p2 pos : Pos} (hf : f = "len") (hN : X.N[i]? = some x) (hv : Vis X.env.scope x) (hd : (x == ("__debug__" : Str)) = false) (hcd : (x == ("__classdict__" : Str)) = false) (hg : Gl X f) (hm : X.mg f = none) : PE X (.Call (.Name f p1) [.Name x p2] [] pos) (liftE c (wLenD i)) := by
  subst hf
  refine pe_weak (pe_callB L2.call_lenD hg hm (by decide +kernel) (pa_cons (pe_var hN hv hd hcd) pa_nil)) fun σ H Q ⟨F, ρ, P, E, S, w, q, qx⟩ => ?_
  obtain ⟨kvs, e, w⟩ := ownD_of w
  obtain ⟨a, u, g1, g2, ⟨vs, rfl, r⟩, g4, g5⟩ := S.ownAt e
  exact ⟨.ref a, g1, a, vs, rfl, g2, by rw [← r.length]; exact q _ _ F H w S (Same.refl F) rfl⟩
theorem lf_keysD {i : Nat} {x f : Str} {p1 p2 pos : Pos} (hc : X.calm = true) (hf : f = "list") (hN : X.N[i]? = some x) (hv : Vis X.env.scope x) (hd : (x == ("__debug__" : Str)) = false) (hcd : (x == ("__classdict__" : Str)) = false) (hg : Gl X f) (hm : X.mg f = none) : PE X (.Call (.Name f p1) [.Name x p2] [] pos) (liftF c (wKeysD i)) := by
  subst hf
  refine pe_weak (pe_callTy (call_listD hc) hg hm (by decide +kernel) (pa_cons (pe_var hN hv hd hcd) pa_nil)) fun σ H Q ⟨F, ρ, P, E, S, w, q, qx⟩ => ?_
  obtain ⟨kvs, e, w⟩ := ownD_of w
  obtain ⟨a, u, g1, g2, ⟨vs, rfl, r⟩, g4, g5⟩ := S.ownAt e
  exact ⟨.ref a, g1, a, vs, rfl, .inl g2, fun p np => q _ _ p F H w S (Same.refl F) r.keys np⟩
end
/-! ### properties -/
def wProp (pt : Nat → Option (List D → WD)) (wo : WE) : WE := fun ρ P E => wo ρ (fun d => match d with
  | .ins k _ _ => hasI (pt k) fun f => f [d] P fun _ => False
  | _ => False) E
structure PropAt (X : Cx) (c : Ct) (k : Nat) (m : Str) (w : List D → WD) : Prop where
  ex : ∃ (g p : Addr) (fd : FuncData) (ps : List Str) (j : Nat), Cls X.K (c.T.cad k) ∧ PropOf X.K (c.T.cad k) m p g ∧ FnOk X.prog X.w X.K X.mg X.base (L2.CX X.prog X.w) j g fd ps (spF c.K c.T ps.length w) ∧ Room (j + 1) X.A ∧ Binds X.K fd ps [] ∧ ∀ ds P E, w ds P E → ds.length = ps.length
section
variable {c : Ct} {X : Cx}
theorem lv_prop {mid : Nat} {pt : Nat → Option (List D → WD)} {o : Expr} {pos : Pos} {wo : WE} (hpt : ∀ k w, pt k = some w → PropAt X c k (c.T.nm mid) w) (ho : PE X o (liftE c wo)) (hab : attributeBase o (c.T.nm mid) X.env (eval o X.env) = eval o X.env) :
    PE X (.Attribute o (c.T.nm mid) pos) (liftE c (wProp pt wo)) := by
  refine ⟨fun pins s σ H Q I ⟨F, ρ, P, E, S, w, q, x⟩ => ?_⟩
  refine attr_of hab (thn (ho.run pins s σ H (fun v H1 => ∃ d F1, R c.K c.T F1 d v ∧ c.S F1 H1 σ ρ ∧ Same F F1 ∧ ∃ k ns vs, d = .ins k ns vs ∧ ∃ f, pt k = some f ∧ f [d] P fun _ => False) I ⟨F, ρ, _, E, S, w, fun d v F1 H1 w1 S1 e1 r1 => ?_, x⟩) fun u s1 ⟨y, H1, I1, rx, d, F1, rd, S1, e1, k, ns, vs, ed, f, ef, w1⟩ => ?_)
  · cases d with
    | ins k ns vs =>
      obtain ⟨f, ef, w1⟩ := hasI_of w1
      exact ⟨_, F1, r1, S1, e1, k, ns, vs, rfl, f, ef, w1⟩
    | _ => exact False.elim w1
  · subst ed
    have rd' := rd
    obtain ⟨a, dx, us, rfl, s0, l, re⟩ := rd
    obtain rfl : u = Value.ref a := rx
    obtain ⟨g, p, fd, ps, j, hc, hp, Fo, hr, hb, hw⟩ := (hpt k f ef).ex
    have rr : Rs c.K c.T F1 [.ins k ns _] [.ref a] := Rs.one rd'
    exact getprop_ok (ds := []) (dvs := []) (E := fun _ _ _ => False) I1 (S1.gr.sub.ins s0) hc hp Fo hr hb .nil (fun pins σ H s e s' _ h => by
      obtain ⟨_, _, _, _, _, _, _, _, _, _, _, _, h⟩ := h
      exact h) ⟨by rw [← rr.length]; exact hw _ _ _ w1, F1, _, P, fun _ => False, ⟨S1.gr.sub, S1.gr.cel⟩, rr, w1, fun d v F' H' h1 p r1 => (q.up e1) d v F' H' h1 (S1.called p) p.old r1, fun y _ _ _ _ h1 => h1.elim⟩
end
end Tr

namespace Tr
open PySem PySem.Spec PyProof.Rows L2
/-! ### f-strings of texts and numbers -/
/-- what a part shows -/
def fsP (d : D) (y : Str) : Prop := d = .str y ∨ ∃ i : Int, d = .int i ∧ i.natAbs.log2 < 1920 ∧ y = Str.ofString (toString i)
def wJ1 (w : WE) (acc : Str) (k : Str → WE) : WE := fun ρ P E => w ρ (fun d => ∃ y, fsP d y ∧ (acc ++ y).length ≤ 1000 ∧ k (acc ++ y) ρ P E) E
def wJ0 (acc : Str) : WE := fun _ P _ => P (.str acc)
section
variable {c : Ct} {X : Cx}
def liftJ (c : Ct) (k : Str → WE) (ts : List TE) : Prop := ∀ acc σ H Q, liftE c (k acc) σ H Q → tJs ts acc σ H fun out H1 => Q (.str out) H1
theorem sl_le {n : Nat} (h : n ≤ 1000) : n ≤ sizeLine := Nat.le_trans h (by decide)
theorem cat_r {x y : Str} (h : (x ++ y).length ≤ 1000) : y.length ≤ sizeLine := by
  have e : (x ++ y).length = x.length + y.length := by show (x.cps ++ y.cps).size = _; exact Array.size_append
  refine sl_le ?_
  omega
theorem lj_nil : liftJ c wJ0 [] := fun acc σ H Q ⟨F, ρ, P, E, S, w, q, x⟩ => q _ _ F H w S (Same.refl F) rfl
theorem lj_cst {z : Str} {k : Str → WE} {ts : List TE} (h : liftJ c k ts) : liftJ c (fun acc => wJ1 (wC (.str z)) acc k) (liftE c (wC (.str z)) :: ts) := fun acc σ H Q ⟨F, ρ, P, E, S, wj, q, x⟩ => by
  obtain ⟨y, hy, hl, w1⟩ : ∃ y, fsP (.str z) y ∧ (acc ++ y).length ≤ 1000 ∧ k (acc ++ y) ρ P E := wj
  have ey : z = y := by
    rcases hy with hy | ⟨i, hy, _⟩
    · cases hy; rfl
    · cases hy
  subst ey
  refine ⟨F, ρ, fun d => d = .str z, E, S, rfl, fun d v F1 H1 w2 S1 e1 r1 => ?_, x⟩
  subst w2
  cases r1
  exact ⟨z, rfl, sl_le hl, h (acc ++ z) σ H1 Q ⟨F1, ρ, P, E, S1, w1, q.up e1, x.up e1⟩⟩
theorem lj_fmt {w : WE} {k : Str → WE} {ts : List TE} (h : liftJ c k ts) : liftJ c (fun acc => wJ1 w acc k) (tFmt (liftE c w) :: ts) := fun acc σ H Q ⟨F, ρ, P, E, S, wj, q, x⟩ => by
  refine ⟨F, ρ, _, E, S, wj, fun d v F1 H1 w1 S1 e1 r1 => ?_, x⟩
  obtain ⟨y, hy, hl, w1⟩ := w1
  have nx : tJs ts (acc ++ y) σ H1 fun out H1 => Q (.str out) H1 := h (acc ++ y) σ H1 Q ⟨F1, ρ, P, E, S1, w1, q.up e1, x.up e1⟩
  rcases hy with rfl | ⟨i, rfl, hi, rfl⟩
  · cases r1
    exact .inl ⟨y, rfl, cat_r hl, y, rfl, sl_le hl, nx⟩
  · cases r1
    exact .inr ⟨i, rfl, hi, _, rfl, sl_le hl, nx⟩
theorem lv_fstr {v1 v2 : Expr} {rest : List Expr} {ts : List TE} {k : Str → WE} {pos : Pos} (hp : PJ X (v1 :: v2 :: rest) ts) (hj : liftJ c k ts) : PE X (.JoinedStr (v1 :: v2 :: rest) pos) (liftE c (k Str.empty)) :=
  pe_weak (pe_joined hp) fun σ H Q q => hj Str.empty σ H Q q
end
/-! ### join, split, partition -/
def wJoin (wo we : WE) : WE := fun ρ P E => wo ρ (fun d => isStr d fun a => we ρ (fun e => ∃ ys : List Str, (e = .lst (ys.map .str) ∨ e = .tup (ys.map .str)) ∧ (ys.map (·.length)).sum + ys.length * a.length ≤ 16777216 ∧ P (.str (Txt.join a ys))) E) E
def wSplt (wo we : WE) : WE := fun ρ P E => wo ρ (fun d => isStr d fun a => we ρ (fun e => isStr e fun b => (b.length == 0) = false ∧ a.length ≤ 10000 ∧ P (.lst ((Txt.split a b).map .str))) E) E
def wPrtn (wo we : WE) : WE := fun ρ P E => wo ρ (fun d => isStr d fun a => we ρ (fun e => isStr e fun b => (b.length == 0) = false ∧ a.length ≤ 10000 ∧ P (.tup [.str (Txt.partition a b).1, .str (Txt.partition a b).2.1, .str (Txt.partition a b).2.2])) E) E
section
variable {c : Ct} {X : Cx} {o e : Expr} {wo we : WE} {m : Str} {p2 p3 : Pos}
theorem rs_str {K : PySem.W.Frag} {T : Tab} {F : Hp} : ∀ {ys : List Str} {vs : List V}, Rs K T F (ys.map D.str) vs → vs = ys.map V.str
  | [], _, q => q
  | y :: ys, _, ⟨v, r, e, a, b⟩ => by
    subst e
    cases a
    rw [rs_str b]
    rfl
theorem lv_join (hK : X.K = c.K) (hm : m = "join") (ho : PE X o (liftE c wo)) (he : PE X e (liftE c we)) (hbase : attributeBase o m X.env (eval o X.env) = eval o X.env) (hline : (p2.endLine == p3.line) = true) (hs : starEach [e] X.env = (false, eval e X.env) :: starEach [] X.env) :
    PE X (.Call (.Attribute o m p2) [e] [] p3) (liftE c (wJoin wo we)) := by
  subst hm
  refine pe_weak (pe_join ho he hs hbase hline) fun σ H Q ⟨F, ρ, P, E, S, w, q, x⟩ => ⟨F, ρ, _, E, S, w, fun d v F1 H1 w1 S1 e1 r1 => ?_, x⟩
  obtain ⟨a, rfl, w1⟩ := isStr_of w1
  cases r1
  refine ⟨⟨a, rfl⟩, F1, ρ, _, E, S1, w1, fun d2 v2 F2 H2 w2 S2 e2 r2 => ?_, x.up e1⟩
  obtain ⟨ys, h, hl, w2⟩ := w2
  rcases h with rfl | rfl
  · obtain ⟨p, vs, rfl, s1, r3⟩ := r2
    rw [rs_str r3] at s1
    exact ⟨a, p, ys, rfl, rfl, .inl (hK ▸ S2.gr.sub.seq s1), hl, q _ _ F2 H2 w2 S2 (e1.trans e2) rfl⟩
  · obtain ⟨p, vs, rfl, s1, r3⟩ := r2
    rw [rs_str r3] at s1
    exact ⟨a, p, ys, rfl, rfl, .inr (hK ▸ S2.gr.sub.sqT s1), hl, q _ _ F2 H2 w2 S2 (e1.trans e2) rfl⟩
theorem lf_splt (hm : m = "split") (ho : PE X o (liftE c wo)) (he : PE X e (liftE c we)) (hbase : attributeBase o m X.env (eval o X.env) = eval o X.env) (hline : (p2.endLine == p3.line) = true) (hs : starEach [e] X.env = (false, eval e X.env) :: starEach [] X.env) :
    PE X (.Call (.Attribute o m p2) [e] [] p3) (liftF c (wSplt wo we)) := by
  subst hm
  refine pe_weak (pe_split ho he hs hbase hline) fun σ H Q ⟨F, ρ, P, E, S, w, q, x⟩ => ⟨F, ρ, _, E, S, w, fun d v F1 H1 w1 S1 e1 r1 => ?_, x⟩
  obtain ⟨a, rfl, w1⟩ := isStr_of w1
  cases r1
  refine ⟨⟨a, rfl⟩, F1, ρ, _, E, S1, w1, fun d2 v2 F2 H2 w2 S2 e2 r2 => ?_, x.up e1⟩
  obtain ⟨b, rfl, hb, hl, w2⟩ := isStr_of w2
  cases r2
  exact ⟨a, b, rfl, rfl, hb, Nat.le_trans (show a.length + 2 ≤ 10002 by omega) (by decide), fun p np => q _ _ p F2 H2 w2 S2 (e1.trans e2) (rs_strs _) np⟩
theorem lv_prtn (hm : m = "partition") (ho : PE X o (liftE c wo)) (he : PE X e (liftE c we)) (hbase : attributeBase o m X.env (eval o X.env) = eval o X.env) (hline : (p2.endLine == p3.line) = true) (hs : starEach [e] X.env = (false, eval e X.env) :: starEach [] X.env) :
    PE X (.Call (.Attribute o m p2) [e] [] p3) (liftE c (wPrtn wo we)) := by
  subst hm
  refine pe_weak (pe_partition ho he hs hbase hline) fun σ H Q ⟨F, ρ, P, E, S, w, q, x⟩ => ⟨F, ρ, _, E, S, w, fun d v F1 H1 w1 S1 e1 r1 => ?_, x⟩
  obtain ⟨a, rfl, w1⟩ := isStr_of w1
  cases r1
  refine ⟨⟨a, rfl⟩, F1, ρ, _, E, S1, w1, fun d2 v2 F2 H2 w2 S2 e2 r2 => ?_, x.up e1⟩
  obtain ⟨b, rfl, hb, hl, w2⟩ := isStr_of w2
  cases r2
  refine ⟨a, b, rfl, rfl, hb, Nat.le_trans hl (by decide), new_tup S2 (ds := [.str _, .str _, .str _]) ?_ w2 (q.up (e1.trans e2))⟩
  exact ⟨_, _, rfl, rfl, _, _, rfl, rfl, _, _, rfl, rfl, rfl⟩
end
/-! ### new lists: handed back, put behind a list of one's own -/
def liftN (c : Ct) (w : WE) : TE := fun σ H Q => ∃ F ρ P E, c.S F H σ ρ ∧ w ρ (fun d => isLst d P) E ∧ (∀ ds vs p F' H', P ds → c.S F' H' σ ρ → Same F F' → Rs c.K c.T F' ds vs → H' p = none → Q (.ref p) (upd H' p (.lst vs))) ∧ c.qX F σ ρ E
def sExt (i : Nat) (w : WE) : WS := fun A ρ => ownL ρ i fun ds => w ρ (fun d => isLst d fun es => ds.length + es.length ≤ sizeLine ∧ A.nx (ρ.set i (.own (.lst (ds ++ es))))) (fun x => A.xe x ρ)
def sRetF (w : WE) : WS := fun A ρ => w ρ (fun d => isLst d A.ro) (fun x => A.xe x ρ)
section
variable {c : Ct} {X : Cx}
theorem lg_of {e : Expr} {w : WE} (h : PE X e (liftF c w)) : PE X e (liftN c w) := pe_weak h fun σ H Q ⟨F, ρ, P, E, S, w, q, x⟩ => ⟨F, ρ, _, E, S, w, fun ds vs p F' H' h1 S1 e1 r1 np => q ds vs p F' H' h1 S1 e1 r1 np, x⟩
theorem lg_add {a b : Expr} {wa wb : WE} {pos : Pos} (hK : X.K = c.K) (ha : PE X a (liftE c wa)) (hb : PE X b (liftE c wb)) : PE X (.BinOp a .Add b pos) (liftN c (w2 dAdd wa wb)) := by
  refine pe_weak (pe_op op_catL ha hb) fun σ H Q ⟨F, ρ, P, E, S, w, q, x⟩ => ⟨F, ρ, _, E, S, w, fun d v F1 H1 w1 S1 e1 r1 => ⟨F1, ρ, _, E, S1, w1, fun d2 v2 F2 H2 w2 S2 e2 r2 => ?_, x.up e1⟩, x⟩
  cases d with
  | lst xs =>
    cases d2 with
    | lst ys =>
      obtain ⟨l, us, rfl, s1, r3⟩ := r1
      obtain ⟨b, zs, rfl, s2, r4⟩ := r2
      obtain ⟨hl, w2⟩ := w2
      have r5 := (r3.mono e2).append r4
      exact ⟨l, b, us, zs, rfl, rfl, hK ▸ S2.gr.sub.seq (e2.seq s1), hK ▸ S2.gr.sub.seq s2, by rw [← r3.length, ← r4.length]; exact hl, fun p np => q _ _ p F2 H2 w2 S2 (e1.trans e2) r5 np⟩
    | _ => exact False.elim w2
  | _ => cases d2 <;> first | exact False.elim w2 | exact False.elim w2.2 | skip
theorem ls_retF {e : Expr} {w : WE} {pos : Pos} (he : PE X e (liftN c w)) : PS X (.Return (some e) pos) (liftS c (sRetF w)) := by
  refine ps_weak (ps_ret he) fun D0 σ H ⟨F, ρ, A, S, w, q⟩ => ⟨F, ρ, _, _, S, w, fun ds vs p F1 H1 w1 S1 e1 r1 np => ?_, q.qX σ ρ⟩
  have sH : Same H1 (upd H1 p (.lst vs)) := fun a u e => by rw [upd_ne (ne_of_none e np)]; exact e
  have fp : F1 p = none := S1.gr.sub.free np
  exact q.ro ds p vs F1 (upd H1 p (.lst vs)) w1 ⟨S1.gr.keep.up sH, S1.gr.sub.trans sH, S1.gr.new, S1.gr.old, S1.gr.cel.up sH⟩ e1 upd_same fp (S1.gr.keep.free np) r1
theorem ls_ext {i : Nat} {x m : Str} {p1 p2 p3 pos : Pos} {e : Expr} {w : WE} (hm : m = "extend") (hN : X.N[i]? = some x) (hv : Vis X.env.scope x) (hd : (x == ("__debug__" : Str)) = false) (hcd : (x == ("__classdict__" : Str)) = false) (he : PE X e (liftN c w))
    (hbase : attributeBase (.Name x p1) m X.env (eval (.Name x p1) X.env) = eval (.Name x p1) X.env)
    (hline : (p2.endLine == p3.line) = true) (hs : starEach [e] X.env = (false, eval e X.env) :: starEach [] X.env) :
    PS X (.Expr (.Call (.Attribute (.Name x p1) m p2) [e] [] p3) pos) (liftS c (sExt i w)) := by
  subst hm
  have hfew : ((backTo p3 (starEach [e] X.env)).all (fun x => !x.1) && (backToKw p3 (keywordEach [] X.env)).all (fun x => x.1.isSome)
      && decide (([e] : List Expr).length + ([] : List Keyword).length + (if ([] : List Keyword).isEmpty then 0 else 1) < 30)) = true := by rw [hs]; rfl
  refine ps_weak (ps_expr (pe_bm PySem.F.plainAttrs_list PySem.F.slot_list_extend PySem.F.type_list_extend mt_extend (pe_var hN hv hd hcd) (pa_cons he pa_nil hs) hbase hfew hline hs rfl)) fun D0 σ H ⟨F, ρ, A, S, w, q⟩ => ?_
  obtain ⟨ds, e, w⟩ := ownL_of w
  obtain ⟨a, u, g1, g2, ⟨vs, rfl, r⟩, g4, g5⟩ := S.ownAt e
  refine ⟨.ref a, g1, .inl ⟨rfl, vs, .inl (.inl g2)⟩, F, ρ, _, _, S, w, fun es us p F1 H1 w1 S1 e1 r1 np => ?_, q.qX σ ρ⟩
  obtain ⟨S2, e2⟩ := S1.frozen np (.lst us) (fun _ z => nomatch z)
  obtain ⟨b, u, k1, k2, ⟨zs, rfl, r2⟩, k4, k5⟩ := S2.ownAt e
  rw [g1] at k1
  cases k1
  obtain ⟨hl, w1⟩ := w1
  refine ⟨a, p, zs, us, rfl, rfl, k2, upd_same, by rw [← r2.length, ← r1.length]; exact hl, ?_⟩
  exact q.nx _ _ _ _ w1 (S2.write e g1 (o' := .lst (ds ++ es)) ⟨zs ++ us, rfl, r2.append (r1.mono e2)⟩ fun _ _ _ z => nomatch z) (e1.trans e2)
end
end Tr

namespace Tr
open PySem PySem.Spec PyProof.Rows L2
/-! ### enumerate of a list, of a text -/
def enD (ds : List D) : List D := (List.range ds.length).map fun i : Nat => .tup [.int (i : Int), ds.getD i .non]
def wEnm (w : WE) : WI := fun ρ P E => w ρ (fun d => isLst d fun ds => P (enD ds)) E
def wEnS (w : WE) : WI := fun ρ P E => w ρ (fun d => isStr d fun x => P (enD (chD x))) E
/-- the signs with their places -/
def Ites (x : Str) : It :=
  ⟨fun i _ => i < x.cps.size,
    fun i H v H' => ∃ T ch, v = .ref T ∧ H T = none ∧ H' = upd H T (.tup [.int i, .str ⟨#[ch]⟩]) ∧ x.cps[i]? = some ch,
    fun i _ => x.cps.size ≤ i⟩
theorem turn_enumS {P : Program} {w : World} {K : PySem.W.Frag} {elts : List Expr} {kk : Nat} {tpos : Pos} (x : Str) (t : Tok) {e it : Addr} (ne : e ≠ it) :
    Turn P w K (.Tuple elts kk tpos) (Ites x) [e, it] e (fun i h => (∃ old, IsEnum h e it (i : Int) old) ∧ h.IsStrIter it (strIterType x) x t i ∧ i ≤ x.cps.size) where
  mem := List.mem_cons_self
  obj := fun i h st b hb => by
    obtain ⟨⟨old, hz⟩, ⟨o, h1, h2, h3⟩, _⟩ := st
    simp only [List.mem_cons, List.not_mem_nil, or_false] at hb
    rcases hb with rfl | rfl
    · exact ⟨_, hz, fun v q => nomatch q⟩
    · exact ⟨o, h1, fun v q => by rw [h3] at q; cases q⟩
  keep := fun i h h' st k => by
    obtain ⟨⟨old, hz⟩, ⟨o, h1, h2, h3⟩, l⟩ := st
    exact ⟨⟨old, k e (by simp) _ hz⟩, ⟨o, k it (by simp) _ h1, h2, h3⟩, l⟩
  item := by
    intro X hP hw hK hc i pins s σ H E I hf st hg
    subst hP hw hK
    obtain ⟨⟨old, hz⟩, hi, _⟩ := st
    have hzl : e < s.heap.objs.size := Heap.lt_size hz
    have hil : it < s.heap.objs.size := by obtain ⟨o, h1, _⟩ := hi; exact Heap.lt_size h1
    refine wpAny_pyNext_enum_itemD (Draws.text (A := X.A.in1) (I.ok.hd hc) it x t) hz hi hg ne (by simpa using ne) fun v h' tk hv z' i' hT hsz hk => ?_
    refine ⟨_, rfl, wpAny_letOwnedTupleGo_enum (s := { s with heap := h', toks := tk + 1 }) z' fun h'' z'' sb => ?_⟩
    obtain ⟨ch, u, hch, rfl⟩ := hv
    have hT2 : h''.get? s.heap.objs.size = some { cls := .type "tuple", data := .seq #[Value.int (i : Int) tk, Value.str ⟨#[ch]⟩ u] } := (sb.2 _ (Nat.ne_of_gt hzl)).trans hT
    have new : ObjOk X.prog X.w (upd H s.heap.objs.size (.tup [.int i, .str ⟨#[ch]⟩])) h'' s.heap.objs.size (.tup [.int i, .str ⟨#[ch]⟩]) :=
      ⟨by show 2 ≤ sizeLine; decide, [Value.int (i : Int) tk, Value.str ⟨#[ch]⟩ u], .cons ⟨_, rfl⟩ (.cons ⟨_, rfl⟩ .nil), ⟨_, hT2, rfl, _, rfl⟩⟩
    have I1 : Inv X pins σ (upd H s.heap.objs.size (.tup [.int i, .str ⟨#[ch]⟩])) { s with heap := h'', toks := tk + 1 } :=
      I.turnedNew (t' := tk + 1) (ch := [e, it]) (fun c o hb q => (sb.2 c (fun q' => hb (by simp [q']))).trans (hk c o (fun q' => hb (by simp [q'])) (fun q' => hb (by simp [q'])) q)) hf (Nat.le_refl _) new
    refine ⟨.ref s.heap.objs.size, _, I1, rfl, ⟨_, ch, rfl, I.hok.fresh (Nat.le_refl _), rfl, hch⟩, ⟨⟨_, z''⟩, ?_, hg⟩, fun c hcm => ?_⟩
    · obtain ⟨o, h1, h2, h3⟩ := i'
      exact ⟨o, (sb.2 _ ne.symm).trans h1, h2, h3⟩
    · have hlt : c < s.heap.objs.size := by
        simp only [List.mem_cons, List.not_mem_nil, or_false] at hcm
        rcases hcm with q | q
        · rw [q]; exact hzl
        · rw [q]; exact hil
      rw [upd_ne (Nat.ne_of_lt hlt)]
      exact (hf c hcm).1
  done := by
    intro X hP hw hK hc i pins s σ H E I hf st hg
    subst hP hw hK
    obtain ⟨⟨old, hz⟩, hi, l⟩ := st
    have hg : x.cps.size ≤ i := hg
    have e1 : i = x.cps.size := by omega
    subst e1
    obtain ⟨f1, f2, f3, f4, f5, f6⟩ := hf it (by simp)
    exact wpAny_pyNext_enum_endD (Draws.text (A := X.A.in1) (I.ok.hd hc) it x t) hz hi fun h' hk => ⟨rfl, I.turned (t' := s.toks) hk f1 f2 f4 f5 f6⟩
  self := fun A i s Q E st h => by
    obtain ⟨⟨old, hz⟩, _⟩ := st
    exact wpAny_pyIter_enum hz h
def iEnumS (ta : TA) : TI := fun σ H R => ta σ H fun vs H1 => ∃ x, vs = [V.str x] ∧ R (Ites x) H1
theorem pi_enumS {X : Cx} {e : Expr} {ta : TA} {p pos tpos : Pos} {elts : List Expr} {kk : Nat} (hg : Gl X "enumerate") (hm : X.mg "enumerate" = none) (ha : PA X [e] ta) (hs : starEach [e] X.env = [(false, eval e X.env)]) : PI X (.Tuple elts kk tpos) (.Call (.Name "enumerate" p) [e] [] pos) (iEnumS ta) := by
  refine ⟨fun pins s σ H R I h => ?_⟩
  refine PyProof.Rows.Call_ (ld_blt I hg hm PyProof.Rows.boot_enumerate (PyProof.Rows.callWith_type1 (he := hs) (thn (ha.run pos pins s σ H _ I h) fun us s1 ⟨vs, H1, I1, r1, q1⟩ => ?_)))
  obtain ⟨x, rfl, q⟩ := q1
  obtain ⟨u, rfl, ⟨t, rfl⟩⟩ := vals1 r1
  refine call_enumerate_str fun h' z hi hsz hk => ?_
  refine wpAny_pyIter_enum z ?_
  refine ⟨s1.heap.objs.size + 1, [s1.heap.objs.size + 1, s1.heap.objs.size], _, Ites x, H1, rfl, I1.kept (t' := s1.toks) hk, turn_enumS x t (e := s1.heap.objs.size + 1) (it := s1.heap.objs.size) (Nat.succ_ne_self _), ⟨⟨_, z⟩, hi, Nat.zero_le _⟩, fun b hb => ?_, q⟩
  have hle : s1.heap.objs.size ≤ b := by
    simp only [List.mem_cons, List.not_mem_nil, or_false] at hb
    rcases hb with rfl | rfl <;> omega
  exact I1.fpOk hle (I1.hok.fresh hle)
section
variable {c : Ct} {X : Cx}
theorem en_len (ds : List D) : (enD ds).length = ds.length := by unfold enD; rw [List.length_map, List.length_range]
theorem en_get {ds : List D} {i : Nat} {d : D} (e : (enD ds)[i]? = some d) : ∃ y, ds[i]? = some y ∧ d = .tup [.int i, y] := by
  have hi : i < ds.length := by have := lt_of_get e; rwa [en_len] at this
  unfold enD at e
  rw [List.getElem?_map, List.getElem?_range hi] at e
  refine ⟨ds[i], List.getElem?_eq_getElem hi, ?_⟩
  have e := (Option.some.inj e).symm
  dsimp only at e
  rw [List.getD_eq_getElem?_getD, List.getElem?_eq_getElem hi] at e
  exact e
theorem walk_enm {G : Hp} {a : Addr} {ds : List D} {vs : List V} (h : SqL c.K G a vs) (r : Rs c.K c.T G ds vs) : Walk c (Ite c.K a) G (enD ds) where
  go := fun i F H h1 h2 hi => by
    rw [en_len] at hi
    exact ⟨vs, vs[i]'(by rw [← r.length]; exact hi), (h2.pre h1).seq h, List.getElem?_eq_getElem _⟩
  stop := fun i F H h1 h2 hi => by
    rw [en_len] at hi
    exact ⟨vs, (h2.pre h1).seq h, by rw [← r.length]; exact hi⟩
  yld := fun sf F0 B i d F H σ ρ e S hG x H' hy => by
    obtain ⟨T, y, rfl, hT, rfl, f⟩ := hy
    obtain ⟨dy, ey, rfl⟩ := en_get e
    obtain ⟨v, e1, r1⟩ := r.get ey
    have := f vs ((S.gr.sub.pre hG).seq h)
    rw [e1] at this
    cases this
    obtain ⟨S2, e2⟩ := Stt.frozen (c := { K := c.K, T := c.T, F0 := F0, B := B, W := c.W, sf := sf }) S hT (.tup [.int i, y]) (fun _ z => nomatch z)
    exact ⟨_, S2, e2, T, _, rfl, .inl (.inl upd_same), _, _, rfl, rfl, _, _, rfl, r1.mono (hG.trans e2), rfl⟩
theorem walk_enS {G : Hp} {x : Str} : Walk c (Ites x) G (enD (chD x)) where
  go := fun i F H _ _ hi => by
    have : (chD x).length = x.cps.size := by unfold chD; rw [List.length_map]; rfl
    rw [en_len, this] at hi; exact hi
  stop := fun i F H _ _ hi => by
    have : (chD x).length = x.cps.size := by unfold chD; rw [List.length_map]; rfl
    rw [en_len, this] at hi; exact hi
  yld := fun sf F0 B i d F H σ ρ e S hG y H' hy => by
    obtain ⟨T, ch, rfl, hT, rfl, hch⟩ := hy
    obtain ⟨dy, ey, rfl⟩ := en_get e
    unfold chD at ey
    rw [List.getElem?_map, Array.getElem?_toList, hch] at ey
    cases ey
    obtain ⟨S2, e2⟩ := Stt.frozen (c := { K := c.K, T := c.T, F0 := F0, B := B, W := c.W, sf := sf }) S hT (.tup [.int i, .str ⟨#[ch]⟩]) (fun _ z => nomatch z)
    exact ⟨_, S2, e2, T, _, rfl, .inl (.inl upd_same), _, _, rfl, rfl, _, _, rfl, rfl, rfl⟩
theorem li_enm {f : Str} {e : Expr} {p pos tpos : Pos} {elts : List Expr} {kk : Nat} {w : WE} (hK : X.K = c.K) (hf : f = "enumerate") (hg : Gl X f) (hm : X.mg f = none) (h : PE X e (liftE c w)) (hs : starEach [e] X.env = [(false, eval e X.env)]) : PI X (.Tuple elts kk tpos) (.Call (.Name f p) [e] [] pos) (liftI c (wEnm w)) := by
  subst hf
  refine pi_weak (pi_enum hg hm (pa_cons h pa_nil hs) hs) fun σ H Q ⟨F, ρ, P, E, S, w, q, x⟩ => ⟨F, ρ, _, E, S, w, fun d v F1 H1 w1 S1 e1 r1 => ?_, x⟩
  cases d with
  | lst ds =>
    obtain ⟨a, vs, rfl, s1, r2⟩ := r1
    exact ⟨a, vs, rfl, hK ▸ S1.gr.sub.seq s1, q _ _ F1 H1 w1 S1 e1 (hK ▸ walk_enm s1 r2)⟩
  | _ => exact False.elim w1
theorem li_enS {f : Str} {e : Expr} {p pos tpos : Pos} {elts : List Expr} {kk : Nat} {w : WE} (hf : f = "enumerate") (hg : Gl X f) (hm : X.mg f = none) (h : PE X e (liftE c w)) (hs : starEach [e] X.env = [(false, eval e X.env)]) : PI X (.Tuple elts kk tpos) (.Call (.Name f p) [e] [] pos) (liftI c (wEnS w)) := by
  subst hf
  refine pi_weak (pi_enumS hg hm (pa_cons h pa_nil hs) hs) fun σ H Q ⟨F, ρ, P, E, S, w, q, x⟩ => ⟨F, ρ, _, E, S, w, fun d v F1 H1 w1 S1 e1 r1 => ?_, x⟩
  obtain ⟨z, rfl, w1⟩ := isStr_of w1
  cases r1
  exact ⟨z, rfl, q _ _ F1 H1 w1 S1 e1 walk_enS⟩
end
end Tr

namespace Tr
open PySem PySem.Spec PyProof.Rows L2

/-! ### the program as data -/
inductive BI where
  | abs | len | int | str | max | min | all | any | sum | tuple | list | isqrt | gcd
  deriving DecidableEq
mutual
inductive IE where
  | var (i : Nat) | cst (d : D)
  | bin (op : Operator) (a b : IE) | neg (a : IE) | cmp (op : CmpOp) (a b : IE) | chain (a : IE) (ops : List CmpOp) (es : List IE)
  | and (a b : IE) | or (a b : IE) | not (a : IE) | ite (t : IT) (a b : IE)
  | tup (es : List IE) | lst (es : List IE) | ix (a b : IE) | ixO (i : Nat) (b : IE) | lenO (i : Nat) | fldO (n : Nat) | fld (a : IE) (n : Nat)
  | call (f : Nat) (es : List IE) | make (k : Nat) (es : List IE) | meth (m : Nat) (o : IE) (es : List IE)
  | blt (f : BI) (es : List IE) | isB (t : String) (a : IE) | isC (k : Nat) (a : IE) | bits (a : IE)
  | lc (own : List (Str × Nat)) (g : IG) (it : II) (cond : List IT) (elt : IE)
  | maxN (es kes : List IE) | makeK (s : Nat) (es kes : List IE) | callK (s : Nat) (es kes : List IE)
  | lc2 (own : List (Str × Nat)) (g0 : IG) (i0 : II) (g1 : IG) (i1 : II) (elt : IE)
  | lc3 (own : List (Str × Nat)) (g0 : IG) (i0 : II) (g1 : IG) (i1 : II) (g2 : IG) (i2 : II) (elt : IE)
  | srt (e : IE) (i : Nat) (x y : Str) | slTo (a k : IE) | slFr (a k : IE) | tupS (a : IE) (es : List IE) | lstS (a : IE) (es : List IE) | dig (a : IE) | slAB (a i j : IE) | call0 (f : Nat) | lenD (i : Nat) | keysD (i : Nat) | prop (m : Nat) (a : IE) | dcT (own : List (Str × Nat)) (i : Nat) (it : II) | inO (neg : Bool) (e : IE) (i : Nat) | idx (a e : IE) | fstr (es : List IE) | join (a e : IE) | splt (a e : IE) | prtn (a e : IE)
inductive IT where
  | val (e : IE) | cmp (op : CmpOp) (a b : IE) | chain (a : IE) (ops : List CmpOp) (es : List IE) | and (a b : IT) | or (a b : IT) | not (a : IT) | inO (neg : Bool) (e : IE) (i : Nat)
inductive II where
  | lst (e : IE) | tup (e : IE) | seq (e : IE) | rg1 (e : IE) | rg2 (a b : IE) | rg3 (a b k : IE) | rev1 (e : IE) | zip (es : List IE) | str (e : IE) | enm (e : IE) | enS (e : IE)
inductive IG where
  | nm (i : Nat) | tup (gs : List IG) | lst (gs : List IG)
end
inductive IS where
  | set (g : IG) (e : IE) | new (i : Nat) (e : IE) | app (i : Nat) (e : IE) | put (i : Nat) (k e : IE) | putA (i : Nat) (op : Operator) (k e : IE) | aug (i : Nat) (op : Operator) (e : IE) | fld (n : Nat) (e : IE)
  | ret (e : IE) | retN | iff (t : IT) (a b : List IS) | expr (e : IE) | brk | cnt | pass
  | «for» (g : IG) (it : II) (b : List IS) | «while» (t : IT) (b : List IS) | frz (i : Nat) | bad | par (i j : Nat) (a b : IE)
  | raise (k f : Nat) (e : IE) | «try» (b : List IS) (k i : Nat) (s : List IXS)
  | retO (i : Nat) | lend (is : List Nat) (i : Nat) (e : IE) | setF (ts : List (Bool × Nat)) (e : IE) | fldP (n : Nat) (e : IE) | digS (i : Nat) (k e : IE) | newD (i : Nat) | putD (i : Nat) (k e : IE) | ext (i : Nat) (e : IE) | retF (e : IE)

/-- what the callees are -/
structure Sm where
  sem : Nat → List D → WD
  ini : Nat → List D → WD
  mt : Nat → Nat → Option Nat
  sig : Sig
  shp : Nat → Option Shp
  shf : Nat → Option Shp
  xs : XSig := {}
  /-- what the memories hold -/
  mem : Nat → List Int → Option D := fun _ _ => none
  /-- properties -/
  pt : Nat → Nat → Option Nat := fun _ _ => none
  prp : Nat → List D → WD := fun _ _ _ _ => False
def dNo2 : D → D → WD := fun _ _ _ _ => False
def dNoN : List D → WD := fun _ _ _ => False
def binD : Operator → D → D → WD
  | .Add => dAdd | .Sub => dSub | .Mult => dMul | .FloorDiv => dDiv | .Mod => dMod | .Pow => dPow | .LShift => dShl | .RShift => dShr
  | _ => dNo2
def cmpD : CmpOp → D → D → WD
  | .Eq => dEq | .NotEq => dNe | .Lt => dLt | .LtE => dLe | .Gt => dGt | .GtE => dGe | .Is => dIs false | .IsNot => dIs true | .In => dIn false | .NotIn => dIn true
def dBits : D → WD
  | .int i => fun P _ => P (.int (Builtin.Int.intBits i : Nat))
  | _ => fun _ _ => False
def augD : Operator → D → D → WD
  | .Add => dI2' fun i j => .int (i + j)
  | .Sub => dI2' fun i j => .int (i - j)
  | .Mult => dMul
  | _ => dNo2
def augI : Operator → Option (Int → Int → Int)
  | .Add => some fun i j => i + j
  | .Sub => some fun i j => i - j
  | _ => none
def bIsqrt : List D → WD
  | [.int i] => fun P _ => 0 ≤ i ∧ i.toNat.log2 ≤ 13000 ∧ P (.int (Float64.isqrt i.toNat : Nat))
  | _ => fun _ _ => False
def bGcd : List D → WD
  | [.int a, .int b] => fun P _ => P (.int ((Nat.gcd a.natAbs b.natAbs : Nat) : Int))
  | [.int a, .int b, .int c, .int d] => fun P _ => P (.int (g4 a b c d))
  | _ => fun _ _ => False
def biD : BI → List D → WD
  | .abs => bAbs | .len => bLen | .int => bInt | .str => bStr | .max => bMax | .min => bMin | .all => bAll | .any => bAny | .sum => bSum | .tuple => bTuple | .list => bList | .isqrt => bIsqrt | .gcd => bGcd

mutual
def slG : IG → List Nat
  | .nm i => [i]
  | .tup gs => slGs gs
  | .lst gs => slGs gs
def slGs : List IG → List Nat
  | [] => []
  | g :: gs => slG g ++ slGs gs
end
mutual
def semG : IG → WG
  | .nm i => gN i
  | .tup gs => gT gs.length (semGs gs)
  | .lst gs => gL gs.length (semGs gs)
def semGs : List IG → List D → List Slot → (List Slot → Prop) → Prop
  | [] => gsNil
  | g :: gs => gsCons (semG g) (semGs gs)
end
section
variable (M : Sm)
mutual
def semE : IE → WE
  | .var i => wVar i
  | .cst d => wC d
  | .bin op a b => w2 (binD op) (semE a) (semE b)
  | .neg a => w1 dNeg (semE a)
  | .cmp op a b => w2 (cmpD op) (semE a) (semE b)
  | .chain a ops es => wChain (semE a) (semL ops es)
  | .and a b => wAndV (semE a) (semE b)
  | .or a b => wOrV (semE a) (semE b)
  | .not a => wNotV (semE a)
  | .ite t a b => wIf (semT t) (semE a) (semE b)
  | .tup es => wTup (semA es)
  | .lst es => wLst (semA es)
  | .ix a b => w2 dIx (semE a) (semE b)
  | .ixO i b => wIxO i (semE b)
  | .lenO i => wLenO i
  | .fldO n => wFldO M.sig n
  | .fld a n => w1 (dFld M.sig n) (semE a)
  | .call f es => wN (M.sem f) (semA es)
  | .make k es => wN (M.ini k) (semA es)
  | .meth m o es => wMeth m (fun k => (M.mt k m).map M.sem) (semE o) (semA es)
  | .blt f es => wN (biD f) (semA es)
  | .isB t a => w1 (dIsB M.sig t) (semE a)
  | .isC k a => w1 (dIsC M.sig k) (semE a)
  | .bits a => w1 dBits (semE a)
  | .lc own g it cond elt => wLc (own.map (·.2)) (semI it) (semG g) (semC cond) (semE elt)
  | .maxN es kes => wMaxN (semA es) (semA kes)
  | .makeK s es kes => wMkK (M.shp s) M.ini (semA es) (semA kes)
  | .callK s es kes => wMkK (M.shf s) M.sem (semA es) (semA kes)
  | .lc2 own g0 i0 g1 i1 elt => wLc2 (own.map (·.2)) (slG g1) (semI i0) (semG g0) (semI i1) (semG g1) (semE elt)
  | .lc3 own g0 i0 g1 i1 g2 i2 elt => wLc3 (own.map (·.2)) (slG g1 ++ slG g2) (slG g2) (semI i0) (semG g0) (semI i1) (semG g1) (semI i2) (semG g2) (semE elt)
  | .srt e i _ _ => wSrt i (semE e)
  | .slTo a k => w2 dSlTo (semE a) (semE k)
  | .slFr a k => w2 dSlFr (semE a) (semE k)
  | .tupS a es => wTup (wStar (semE a) (semA es))
  | .lstS a es => wLst (wStar (semE a) (semA es))
  | .dig a => wDig (semE a)
  | .call0 f => wN (M.sem f) wNil
  | .lenD i => wLenD i
  | .prop m a => wProp (fun k => (M.pt k m).map M.prp) (semE a)
  | .keysD i => wKeysD i
  | .dcT own i it => wDct i (own.map (·.2)) (semI it)
  | .inO neg e i => wInO neg (semE e) i
  | .idx a e => wIdx (semE a) (semE e)
  | .slAB a i j => wSlAB (semE a) (semE i) (semE j)
  | .fstr es => semJ es Str.empty
  | .join a e => wJoin (semE a) (semE e)
  | .splt a e => wSplt (semE a) (semE e)
  | .prtn a e => wPrtn (semE a) (semE e)
def semJ : List IE → Str → WE
  | [] => wJ0
  | e :: es => fun acc => wJ1 (semE e) acc (semJ es)
def semA : List IE → WA
  | [] => wNil
  | e :: es => wCons (semE e) (semA es)
def semL : List CmpOp → List IE → List ((D → D → WD) × WE)
  | op :: ops, e :: es => (cmpD op, semE e) :: semL ops es
  | _, _ => []
def semT : IT → WT
  | .val e => wTru (semE e)
  | .cmp op a b => wTst (w2 (cmpD op) (semE a) (semE b))
  | .chain a ops es => wTst (wChain (semE a) (semL ops es))
  | .and a b => wAnd (semT a) (semT b)
  | .or a b => wOr (semT a) (semT b)
  | .not a => wNot (semT a)
  | .inO neg e i => wTst (wInO neg (semE e) i)
def semC : List IT → WT
  | [] => wYes
  | t :: _ => semT t
def semI : II → WI
  | .lst e => wLstI (semE e)
  | .tup e => wTupI (semE e)
  | .seq e => wSqI (semE e)
  | .rg1 e => wRg1 (semE e)
  | .rg2 a b => wRg2 (semE a) (semE b)
  | .rg3 a b k => wRg3 (semE a) (semE b) (semE k)
  | .rev1 e => wRev1 (semE e)
  | .zip es => wZipN es.length (semA es)
  | .str e => wStrI (semE e)
  | .enm e => wEnm (semE e)
  | .enS e => wEnS (semE e)
end
def fmtD : D → Prop
  | .str y => y.length ≤ 1000
  | .int i => i.natAbs.log2 < 1920
  | _ => False
/-- raise C(e), C an own error that keeps its argument as the field f -/
def sRaise (k f : Nat) (w : WE) : WS := fun A ρ => w ρ (fun d => fmtD d ∧ A.xe ⟨k, [f], [d]⟩ ρ) (fun x => A.xe x ρ)
/-- try: wb, except C_k as (slot i): s -/
def sTry (xs : XSig) (k i : Nat) (s : List IXS) (wb : WS) : WS := fun A ρ => wb { A with xe := fun x ρ1 => xs.has x.c = true ∧ xs.has k = true ∧ i < ρ1.length ∧
  (if xs.sub x.c k = true then (match runX xs x s with | some none => A.nx (ρ1.set i .emp) | some (some d) => A.rt d | none => False) else A.xe x ρ1) } ρ
def sFld (n : Nat) (w : WE) : WS := fun A ρ => w ρ (fun d => ownI ρ[0]? fun k ns ds => k < M.sig.fld.length ∧ (M.sig.fld.getD k []).contains n = true ∧ ns.length < 900 ∧ ns.contains n = false ∧ A.nx (ρ.set 0 (.own (.ins k (ns ++ [n]) (ds ++ [d]))))) (fun x => A.xe x ρ)
mutual
def semS : IS → WS
  | .set g e => sSet (semG g) (semE M e)
  | .new i e => sNew i (semE M e)
  | .app i e => sApp i (semE M e)
  | .put i k e => sPut i (semE M k) (semE M e)
  | .putA i op k e => match augI op with | some f => sPutA i f (semE M k) (semE M e) | none => fun _ _ => False
  | .aug i op e => sAug i (augD op) (semE M e)
  | .fld n e => sFld M n (semE M e)
  | .ret e => sRet (semE M e)
  | .retN => sRetN
  | .iff t a b => sIf (semT M t) (semB a) (semB b)
  | .expr e => sExpr (semE M e)
  | .brk => sBrk
  | .cnt => sCnt
  | .pass => sNil
  | .for g it b => sFor (semI M it) (semG g) (semB b)
  | .while t b => sWhile (semT M t) (semB b)
  | .frz i => sFrz i
  | .bad => fun _ _ => False
  | .par i j a b => sPar i j (wCons (semE M a) (wCons (semE M b) wNil))
  | .raise k f e => sRaise k f (semE M e)
  | .try b k i s => sTry M.xs k i s (semB b)
  | .retO i => sRetO i
  | .lend is i e => sLend M.mem is i (semE M e)
  | .setF ts e => sSetF M.sig ts (semE M e)
  | .fldP n e => sFldP M.sig n (semE M e)
  | .digS i k e => sDig i (semE M k) (semE M e)
  | .newD i => sNewD i
  | .putD i k e => sPutD i (semE M k) (semE M e)
  | .ext i e => sExt i (semE M e)
  | .retF e => sRetF (semE M e)
def semB : List IS → WS
  | [] => sNil
  | s :: r => sSeq (semS s) (semB r)
end
end

/-! ### the check that the data is the text -/
structure Ck where
  N : List Str
  sc : Scope
  fn : Str → Option Nat
  ma : Str → Option Nat
  cl : Str → Option Nat
  con : Str → Option D
  mid : Nat → Str
  fnl : Str → Bool
  blts : List Str
  libs : List Str
  maK : Str → Option Nat
  shp : Nat → Option Shp
  fnK : Str → Option Nat
  shf : Nat → Option Shp
  xr : Str → Option (Nat × Nat)
  ow : Nat → Bool
  lam : Bool := false
mutual
def flatEq : D → D → Bool
  | .non, .non => true | .bl a, .bl b => a == b | .int a, .int b => a == b | .str a, .str b => decide (a = b)
  | .tup xs, .tup ys => flatsEq xs ys
  | _, _ => false
def flatsEq : List D → List D → Bool
  | [], [] => true
  | x :: xs, y :: ys => flatEq x y && flatsEq xs ys
  | _, _ => false
end
def visB (sc : Scope) (x : Str) : Bool := decide (sc.names.lookup x = some .local) || decide (sc.names.lookup x = some .cell) || decide (sc.names.lookup x = some .free)
def locB (sc : Scope) (x : Str) : Bool := decide (sc.names.lookup x = some .local) || decide (sc.names.lookup x = some .cell)
def glB (sc : Scope) (x : Str) : Bool := decide (sc.names.lookup x = some .globalImplicit)
def plainN (x : Str) : Bool := !(x == ("__debug__" : Str)) && !(x == ("__classdict__" : Str)) && !decide (x = ("__name__" : Str))
/-- a local name -/
def ckVar (C : Ck) (i : Nat) (x : Str) : Bool := decide (C.N[i]? = some x) && visB C.sc x && plainN x
def ckLoc (C : Ck) (i : Nat) (x : Str) : Bool := decide (C.N[i]? = some x) && locB C.sc x && (C.fnl x || decide (C.sc.names.lookup x = some .local))
def ckGl (C : Ck) (x : Str) : Bool := glB C.sc x && plainN x
/-- the name of a built-in thing, that the module has not bound -/
def ckBl (C : Ck) (x : Str) : Bool := ckGl C x && C.blts.contains x
def biName : BI → Str
  | .abs => "abs" | .len => "len" | .int => "int" | .str => "str" | .max => "max" | .min => "min" | .all => "all" | .any => "any" | .sum => "sum" | .tuple => "tuple" | .list => "list" | .isqrt => "isqrt" | .gcd => "gcd"
/-- no form that is evaluated in a way of its own -/
def plainE : Expr → Bool
  | .Starred .. => false | .Slice .. => false | .ListComp .. => true | .SetComp .. => false | .DictComp .. => false | .Set .. => false | .Call (.Name x _) [] [] _ => !decide (x = ("super" : Str))
  | _ => true
def notComp : Expr → Bool
  | .ListComp .. => false | .SetComp .. => false | .DictComp .. => false
  | _ => true
def notTest : Expr → Bool
  | .UnaryOp .Not _ _ => false | .BoolOp .. => false | .IfExp .. => false | .Compare .. => false
  | _ => true
def isTupE : Expr → Bool
  | .Tuple .. => true
  | _ => false
def tyName (t : String) : Str := Str.ofString t
def ckCs : IE → Expr → Bool
  | .cst d, .Constant (.str z) _ _ => flatEq d (.str z)
  | _, _ => false
mutual
def ckE (C : Ck) : IE → Expr → Bool
  | .var i, .Name x _ => ckVar C i x
  | .cst d, .Constant (.int z) _ _ => flatEq d (.int z)
  | .cst d, .Constant (.bool z) _ _ => flatEq d (.bl z)
  | .cst d, .Constant (.str z) _ _ => flatEq d (.str z)
  | .cst d, .Constant .none _ _ => flatEq d .non
  | .cst d, .Name x _ => ckGl C x && (match C.con x with | some d' => flatEq d d' | none => false)
  | .bin op a b, .BinOp x o y _ => decide (op = o) && ckE C a x && ckE C b y
  | .neg a, .UnaryOp .USub x _ => ckE C a x
  | .cmp op a b, .Compare x [o] [y] _ => decide (op = o) && (!behindInMarks o y) && ckE C a x && ckE C b y
  | .chain a ops es, .Compare x (o :: o' :: os) ys _ => decide (ops = o :: o' :: os) && (ops.all fun q => !decide (q = .In) && !decide (q = .NotIn)) && decide (ops.length = es.length) && ckE C a x && ckA C es ys
  | .and a b, .BoolOp .And (x :: y :: r) p => ckE C a x && (if r.isEmpty then ckE C b y else ckE C b (.BoolOp .And (y :: r) p))
  | .or a b, .BoolOp .Or (x :: y :: r) p => ckE C a x && (if r.isEmpty then ckE C b y else ckE C b (.BoolOp .Or (y :: r) p))
  | .not a, .UnaryOp .Not x _ => ckE C a x
  | .ite t a b, .IfExp q x y _ => ckT C t q && ckE C a x && ckE C b y
  | .tup es, .Tuple ys _ _ => ckA C es ys
  | .lst es, .List ys _ => ckA C es ys
  | .ix a b, .Subscript x y _ => ckE C a x && ckE C b y && plainE y
  | .ixO i b, .Subscript (.Name x _) y _ => ckVar C i x && ckE C b y && plainE y
  | .lenO i, .Call (.Name f _) [.Name x _] [] _ => decide (f = ("len" : Str)) && ckBl C f && ckVar C i x
  | .fldO n, .Attribute (.Name x q) f _ => ckVar C 0 x && (decide (f = C.mid n) && plainE (.Name x q))
  | .fld a n, .Attribute x f _ => decide (f = C.mid n) && ckE C a x && plainE x
  | .call f es, .Call (.Name x _) (y :: ys) [] _ => ckGl C x && decide (C.fn x = some f) && ckA C es (y :: ys)
  | .make k es, .Call (.Name x _) (y :: ys) [] _ => ckGl C x && decide (C.ma x = some k) && ckA C es (y :: ys)
  | .meth m o es, .Call (.Attribute x f ap) ys [] p => (ap.endLine == p.line) && decide (ys.length < 29) && (decide (f = C.mid m) && ckE C o x && plainE x && ckA C es ys)
  | .blt f es, .Call (.Name x _) (y :: ys) [] _ => (if f = .isqrt ∨ f = .gcd then ckGl C x && C.libs.contains x else ckBl C x) && decide (x = biName f) && ckA C es (y :: ys)
  | .isB t a, .Call (.Name f _) [x, .Name y _] [] _ => decide (f = ("isinstance" : Str)) && ckBl C f && ckBl C y && decide (y = tyName t) && (["int", "bool", "tuple", "list", "str"].contains t) && ckE C a x && plainE x
  | .isC k a, .Call (.Name f _) [x, .Name y _] [] _ => decide (f = ("isinstance" : Str)) && ckBl C f && ckGl C y && decide (C.cl y = some k) && ckE C a x && plainE x
  | .bits a, .Call (.Attribute x f ap) [] [] p => decide (f = ("bit_length" : Str)) && (ap.endLine == p.line) && ckE C a x && plainE x
  | .maxN es kes, .Call (.Name x _) (y :: ys) kws _ => decide (x = ("max" : Str)) && ckBl C x && ckKs C ["default"] kes kws && ckA C es (y :: ys)
  | .makeK s es kes, .Call (.Name x _) (y :: ys) kws _ => (match C.shp s with | some sh => ckGl C x && decide (C.maK x = some sh.k) && ckKs C sh.ks kes kws && ckA C es (y :: ys) | none => false)
  | .lc2 own g0 it0 g1 it1 elt, .ListComp y [⟨tg0, iter0, [], 0⟩, ⟨tg1, iter1, [], 0⟩] scope _ => blkC C.N C.sc scope own && ((slG g0).all fun i => (own.map (·.2)).contains i) && ((slG g1).all fun i => (own.map (·.2)).contains i) && ckI C tg0 it0 iter0 && ckG { C with sc := relS scope C.sc, fnl := (fun x => scope.names.lookup x == some .cell), lam := false } g0 tg0 && ckI { C with sc := relS scope C.sc, fnl := (fun x => scope.names.lookup x == some .cell), lam := false } tg1 it1 iter1 && ckG { C with sc := relS scope C.sc, fnl := (fun x => scope.names.lookup x == some .cell), lam := false } g1 tg1 && ckE { C with sc := relS scope C.sc, fnl := (fun x => scope.names.lookup x == some .cell), lam := false } elt y
  | .lc3 own g0 it0 g1 it1 g2 it2 elt, .ListComp y [⟨tg0, iter0, [], 0⟩, ⟨tg1, iter1, [], 0⟩, ⟨tg2, iter2, [], 0⟩] scope _ => blkC C.N C.sc scope own && ((slG g0).all fun i => (own.map (·.2)).contains i) && ((slG g1 ++ slG g2).all fun i => (own.map (·.2)).contains i) && ckI C tg0 it0 iter0 && ckG { C with sc := relS scope C.sc, fnl := (fun x => scope.names.lookup x == some .cell), lam := false } g0 tg0 && ckI { C with sc := relS scope C.sc, fnl := (fun x => scope.names.lookup x == some .cell), lam := false } tg1 it1 iter1 && ckG { C with sc := relS scope C.sc, fnl := (fun x => scope.names.lookup x == some .cell), lam := false } g1 tg1 && ckI { C with sc := relS scope C.sc, fnl := (fun x => scope.names.lookup x == some .cell), lam := false } tg2 it2 iter2 && ckG { C with sc := relS scope C.sc, fnl := (fun x => scope.names.lookup x == some .cell), lam := false } g2 tg2 && ckE { C with sc := relS scope C.sc, fnl := (fun x => scope.names.lookup x == some .cell), lam := false } elt y
  | .callK s es kes, .Call (.Name x _) (y :: ys) kws _ => (match C.shf s with | some sh => ckGl C x && decide (C.fnK x = some sh.k) && ckKs C sh.ks kes kws && ckA C es (y :: ys) | none => false)
  | .srt e i x z, .Call (.Name f _) [y] [⟨some kw, l, _⟩] _ => C.lam && decide (f = ("sorted" : Str)) && decide (kw = ("key" : Str)) && ckBl C f && plainE y && ckE C e y && ckSrt C.N C.sc i x z l
  | .slTo a k, .Subscript x (.Slice none (some y) none _) _ => ckE C a x && ckE C k y
  | .slFr a k, .Subscript x (.Slice (some y) none none _) _ => ckE C a x && ckE C k y
  | .tupS a es, .Tuple (.Starred x _ :: ys) _ _ => ckE C a x && ckA C es ys
  | .lstS a es, .List (.Starred x _ :: ys) _ => ckE C a x && ckA C es ys
  | .dcT own i it, .DictComp (.Name x _) (.Constant (.bool true) _ _) [⟨.Name y yp, iter, [], 0⟩] scope _ => decide (x = y) && blkC C.N C.sc scope own && (own.map (·.2)).contains i && ckI C (.Name y yp) it iter && ckLoc { C with sc := relS scope C.sc, fnl := (fun x => scope.names.lookup x == some .cell), lam := false } i y && ckVar { C with sc := relS scope C.sc, fnl := (fun x => scope.names.lookup x == some .cell), lam := false } i x
  | .inO neg e i, .Compare y [o] [.Name x _] _ => decide (o = if neg = true then .NotIn else .In) && ckE C e y && ckVar C i x
  | .idx a e, .Call (.Attribute x f ap) [y] [] p => decide (f = ("index" : Str)) && (ap.endLine == p.line) && plainE x && plainE y && ckE C a x && ckE C e y
  | .join a e, .Call (.Attribute x f ap) [y] [] p => decide (f = ("join" : Str)) && (ap.endLine == p.line) && plainE x && plainE y && ckE C a x && ckE C e y
  | .splt a e, .Call (.Attribute x f ap) [y] [] p => decide (f = ("split" : Str)) && (ap.endLine == p.line) && plainE x && plainE y && ckE C a x && ckE C e y
  | .prtn a e, .Call (.Attribute x f ap) [y] [] p => decide (f = ("partition" : Str)) && (ap.endLine == p.line) && plainE x && plainE y && ckE C a x && ckE C e y
  | .fstr es, .JoinedStr (y1 :: y2 :: ys) _ => ckJ C es (y1 :: y2 :: ys)
  | .call0 f, .Call (.Name x _) [] [] _ => ckGl C x && decide (C.fn x = some f)
  | .prop m a, .Attribute x f _ => decide (f = C.mid m) && ckE C a x && plainE x
  | .lenD i, .Call (.Name f _) [.Name x _] [] _ => decide (f = ("len" : Str)) && ckBl C f && ckVar C i x
  | .keysD i, .Call (.Name f _) [.Name x _] [] _ => decide (f = ("list" : Str)) && ckBl C f && ckVar C i x
  | .dig a, .List [y] _ => plainE y && ckE C a y
  | .slAB a i j, .Subscript x (.Slice (some y) (some z) none _) _ => ckE C a x && ckE C i y && ckE C j z
  | .lc own g it cond elt, .ListComp y [⟨tg, iter, ifs, 0⟩] scope _ => blkC C.N C.sc scope own && ((slG g).all fun i => (own.map (·.2)).contains i) && ckI C tg it iter && ckG { C with sc := relS scope C.sc, fnl := (fun x => scope.names.lookup x == some .cell), lam := false } g tg && ckC { C with sc := relS scope C.sc, fnl := (fun x => scope.names.lookup x == some .cell), lam := false } cond ifs && ckE { C with sc := relS scope C.sc, fnl := (fun x => scope.names.lookup x == some .cell), lam := false } elt y
  | _, _ => false
def ckA (C : Ck) : List IE → List Expr → Bool
  | [], [] => true
  | e :: es, y :: ys => plainE y && ckE C e y && ckA C es ys
  | _, _ => false
def ckJ (C : Ck) : List IE → List Expr → Bool
  | [], [] => true
  | e :: es, y :: ys => (match y with | .FormattedValue z k none _ => decide (k = -1) && ckE C e z | y => ckCs e y) && ckJ C es ys
  | _, _ => false
def ckKs (C : Ck) : List Str → List IE → List Keyword → Bool
  | [], [], [] => true
  | n :: ns, e :: es, ⟨some m, y, _⟩ :: kws => decide (m = n) && ckE C e y && ckKs C ns es kws
  | _, _, _ => false
def ckT (C : Ck) : IT → Expr → Bool
  | .val e, y => ckE C e y && notTest y
  | .cmp op a b, .Compare x [o] [y] _ => decide (op = o) && (!behindInMarks o y) && ckE C a x && ckE C b y
  | .chain a ops es, .Compare x (o :: o' :: os) ys _ => decide (ops = o :: o' :: os) && (ops.all fun q => !decide (q = .In) && !decide (q = .NotIn)) && decide (ops.length = es.length) && ckE C a x && ckA C es ys
  | .and a b, .BoolOp .And (x :: y :: r) p => ckT C a x && (if r.isEmpty then ckT C b y else ckT C b (.BoolOp .And (y :: r) p))
  | .or a b, .BoolOp .Or (x :: y :: r) p => ckT C a x && (if r.isEmpty then ckT C b y else ckT C b (.BoolOp .Or (y :: r) p))
  | .not a, .UnaryOp .Not x _ => ckT C a x
  | .inO neg e i, .Compare y [o] [.Name x _] _ => decide (o = if neg = true then .NotIn else .In) && ckE C e y && ckVar C i x
  | _, _ => false
def ckC (C : Ck) : List IT → List Expr → Bool
  | [], [] => true
  | [t], [y] => ckT C t y
  | _, _ => false
def ckI (C : Ck) (tg : Expr) : II → Expr → Bool
  | .lst e, y => ckE C e y && plainE y
  | .tup e, y => ckE C e y && plainE y
  | .seq e, y => ckE C e y && plainE y
  | .rg1 e, .Call (.Name f _) [y] [] _ => decide (f = ("range" : Str)) && ckBl C f && ckE C e y && plainE y
  | .rg2 a b, .Call (.Name f _) [x, y] [] _ => decide (f = ("range" : Str)) && ckBl C f && ckE C a x && plainE x && ckE C b y && plainE y
  | .rg3 a b k, .Call (.Name f _) [x, y, z] [] _ => decide (f = ("range" : Str)) && ckBl C f && ckE C a x && plainE x && ckE C b y && plainE y && ckE C k z && plainE z
  | .rev1 e, .Call (.Name g _) [.Call (.Name f _) [y] [] _] [] _ => decide (f = ("range" : Str)) && ckBl C f && decide (g = ("reversed" : Str)) && ckBl C g && ckE C e y && plainE y
  | .str e, y => ckE C e y && plainE y
  | .enm e, .Call (.Name f _) [y] [] _ => decide (f = ("enumerate" : Str)) && ckBl C f && isTupE tg && ckE C e y && plainE y
  | .enS e, .Call (.Name f _) [y] [] _ => decide (f = ("enumerate" : Str)) && ckBl C f && isTupE tg && ckE C e y && plainE y
  | .zip es, .Call (.Name f _) (y :: ys) [] _ => decide (f = ("zip" : Str)) && ckBl C f && decide (es.length = 2 ∨ es.length = 3 ∨ es.length = 4) && isTupE tg && ckA C es (y :: ys)
  | _, _ => false
def ckG (C : Ck) : IG → Expr → Bool
  | .nm i, .Name x _ => ckLoc C i x
  | .tup gs, .Tuple ys _ _ => ckGs C gs ys
  | .lst gs, .Tuple ys _ _ => ckGs C gs ys
  | _, _ => false
def ckGs (C : Ck) : List IG → List Expr → Bool
  | [], [] => true
  | g :: gs, y :: ys => plainE y && ckG C g y && ckGs C gs ys
  | _, _ => false
end
end Tr

namespace Tr
open PySem PySem.Spec PyProof.Rows L2

structure FnAt (X : Cx) (c : Ct) (x : Str) (w : List D → WD) : Prop where
  ex : ∃ (k : Nat) (f : Addr) (fd : FuncData) (ps : List Str), FnOk X.prog X.w X.K X.mg X.base (L2.CX X.prog X.w) k f fd ps (spF c.K c.T ps.length w) ∧ (∀ ds P E, w ds P E → ds.length = ps.length) ∧ Room k X.A ∧ X.mg x = some (.ref f) ∧ PySem.W.keepIn X.K (.ref f) = true ∧ Binds X.K fd ps []
structure MkAt (X : Cx) (c : Ct) (x : Str) (k : Nat) (w : List D → WD) : Prop where
  ex : ∃ (j : Nat) (f : Addr) (fd : FuncData) (ps : List Str), Mk X.K (c.T.cad k) f ∧ FnOk X.prog X.w X.K X.mg X.base (L2.CX X.prog X.w) j f fd ps (spI c.K c.T ps.length k w) ∧ (∀ ds P E, w ds P E → ds.length + 1 = ps.length) ∧ Room (j + 1) X.A ∧ X.mg x = some (.ref (c.T.cad k)) ∧ Binds X.K fd ps []
/-- the same of a call of a shape -/
structure MkKAt (X : Cx) (c : Ct) (x : Str) (sh : Shp) (w : List D → WD) : Prop where
  ex : ∃ (j : Nat) (f : Addr) (fd : FuncData) (ps : List Str), Mk X.K (c.T.cad sh.k) f ∧ FnOk X.prog X.w X.K X.mg X.base (L2.CX X.prog X.w) j f fd ps (spI c.K c.T ps.length sh.k w) ∧ (∀ ds P E, w ds P E → ds.length + 1 = ps.length) ∧ Room (j + 1) X.A ∧ X.mg x = some (.ref (c.T.cad sh.k)) ∧ KbOk X.K c.T fd ps sh
structure FnKAt (X : Cx) (c : Ct) (x : Str) (sh : Shp) (w : List D → WD) : Prop where
  ex : ∃ (k : Nat) (f : Addr) (fd : FuncData) (ps : List Str), FnOk X.prog X.w X.K X.mg X.base (L2.CX X.prog X.w) k f fd ps (spF c.K c.T ps.length w) ∧ (∀ ds P E, w ds P E → ds.length = ps.length) ∧ Room k X.A ∧ X.mg x = some (.ref f) ∧ PySem.W.keepIn X.K (.ref f) = true ∧ KfOk X.K c.T fd ps sh
/-- an own error's class, and its __init__ -/
structure XrAt (X : Cx) (c : Ct) (x : Str) (k f : Nat) : Prop where
  ex : ∃ (fI : Addr) (a : Str) (j : Nat), PySem.TrX.XCls X.K X.prog X.mg (c.T.cad k) fI a (c.T.nm f) ∧ Room j X.A ∧ 1 ≤ j ∧ X.mg x = some (.ref (c.T.cad k))
/-- a def that returns a list of its own -/
structure OwAt (X : Cx) (c : Ct) (x : Str) (w : List D → WD) : Prop where
  ex : ∃ (w' : WO) (k : Nat) (f : Addr) (fd : FuncData) (ps : List Str), w = (fun ds P E => w' ds (fun r => P (.lst r)) E) ∧ FnOk X.prog X.w X.K X.mg X.base (L2.CX X.prog X.w) k f fd ps (spO c.K c.T ps.length w') ∧ (∀ ds P E, w' ds P E → ds.length = ps.length) ∧ Room k X.A ∧ X.mg x = some (.ref f) ∧ PySem.W.keepIn X.K (.ref f) = true ∧ Binds X.K fd ps []
structure XOk (M : Sm) (C : Ck) (X : Cx) (c : Ct) : Prop where
  K : X.K = c.K
  N : X.N = C.N
  sc : X.env.scope = C.sc
  nd : X.N.Nodup
  calm : X.calm = true
  tk : Takes X c.W
  un : X.A.units + 64 < cLine
  kok : KOk c.K c.T M.sig
  mid : ∀ n, C.mid n = c.T.nm n
  fnl : ∀ x, C.fnl x = true → X.fn x = true
  fns : ∀ x f, C.fn x = some f → FnAt X c x (M.sem f)
  mks : ∀ x k, C.ma x = some k → MkAt X c x k (M.ini k)
  mts : ∀ k m f, M.mt k m = some f → MethAt X c k (c.T.nm m) (M.sem f)
  pts : ∀ k m f, M.pt k m = some f → PropAt X c k (c.T.nm m) (M.prp f)
  cls : ∀ x k, C.cl x = some k → X.mg x = some (.ref (c.T.cad k))
  cons : ∀ x d, C.con x = some d → ∃ v u, X.mg x = some u ∧ RelV v u ∧ R c.K c.T (fun _ => none) d v
  blt : ∀ x, C.blts.contains x = true → X.mg x = none
  libq : C.libs.contains "isqrt" = true → X.mg "isqrt" = some (.builtin "math.isqrt")
  libg : C.libs.contains "gcd" = true → X.mg "gcd" = some (.builtin "math.gcd")
  hshp : C.shp = M.shp
  mkk : ∀ x s sh, C.shp s = some sh → C.maK x = some sh.k → MkKAt X c x sh (M.ini sh.k)
  hshf : C.shf = M.shf
  fnk : ∀ x s sh, C.shf s = some sh → C.fnK x = some sh.k → FnKAt X c x sh (M.sem sh.k)
  xrs : ∀ x k f, C.xr x = some (k, f) → XrAt X c x k f
  xok : XKOk c.K c.T M.xs
  mem : c.T.mem = M.mem
  pw : X.prog = c.T.pr ∧ X.w = c.T.wd
  lam : C.lam = true → LamAt X c
  ows : ∀ x f, C.ow f = true → C.fn x = some f → OwAt X c x (M.sem f)

section
variable {M : Sm} {C : Ck} {X : Cx} {c : Ct}
theorem XOk.blk (k : XOk M C X c) (s : Shared) (H : Hp) (scope : Scope) (cl : List (Str × Addr)) (Cc : Addr) (fp : List Addr) (B : Hp) :
    XOk M { C with sc := relS scope C.sc, fnl := (fun x => scope.names.lookup x == some .cell), lam := false } (X.blk s H scope (compEnvC scope cl Cc X.env) fp) (c.at B) where
  K := k.K
  N := k.N
  sc := by rw [← k.sc]; rfl
  nd := k.nd
  calm := k.calm
  tk := fun u s' h => by
    obtain ⟨_, _, _, _, _, _, _, _, _, _, _, _, _, _, _, _, h⟩ := h
    exact h
  un := k.un
  kok := k.kok
  mid := k.mid
  fnl := fun _ h => h
  fns := fun x f h => ⟨(k.fns x f h).ex⟩
  mks := fun x f h => ⟨(k.mks x f h).ex⟩
  mts := fun a m f h => ⟨(k.mts a m f h).ex⟩
  pts := fun a m f h => ⟨(k.pts a m f h).ex⟩
  cls := k.cls
  cons := k.cons
  blt := k.blt
  libq := k.libq
  libg := k.libg
  hshp := k.hshp
  mkk := fun x s sh h h2 => ⟨(k.mkk x s sh h h2).ex⟩
  hshf := k.hshf
  fnk := fun x s sh h h2 => ⟨(k.fnk x s sh h h2).ex⟩
  xrs := fun x i f h => ⟨(k.xrs x i f h).ex⟩
  xok := k.xok
  mem := k.mem
  pw := k.pw
  lam := fun h => nomatch h
  ows := fun x f h h2 => ⟨(k.ows x f h h2).ex⟩

theorem and2 {a b : Bool} (h : (a && b) = true) : a = true ∧ b = true := Bool.and_eq_true_iff.mp h
theorem vis_of {sc : Scope} {x : Str} (h : visB sc x = true) : Vis sc x := by
  unfold visB at h
  simp only [Bool.or_eq_true, decide_eq_true_eq] at h
  rcases h with (h | h) | h
  · exact .inl h
  · exact .inr (.inl h)
  · exact .inr (.inr h)
theorem loc_of {sc : Scope} {x : Str} (h : locB sc x = true) : Loc sc x := by
  unfold locB at h
  rw [Bool.or_eq_true, decide_eq_true_eq, decide_eq_true_eq] at h
  exact h
theorem plainN_of {x : Str} (h : plainN x = true) : (x == ("__debug__" : Str)) = false ∧ (x == ("__classdict__" : Str)) = false ∧ x ≠ "__name__" := by
  unfold plainN at h
  simpa [Bool.and_eq_true, and_assoc] using h
theorem ckVar_of (k : XOk M C X c) {i : Nat} {x : Str} (h : ckVar C i x = true) : X.N[i]? = some x ∧ Vis X.env.scope x ∧ (x == ("__debug__" : Str)) = false ∧ (x == ("__classdict__" : Str)) = false := by
  unfold ckVar at h
  obtain ⟨h, h3⟩ := and2 h
  obtain ⟨h1, h2⟩ := and2 h
  have p := plainN_of h3
  exact ⟨by rw [k.N]; exact of_decide_eq_true h1, by rw [k.sc]; exact vis_of h2, p.1, p.2.1⟩
theorem ckLoc_of (k : XOk M C X c) {i : Nat} {x : Str} (h : ckLoc C i x = true) : X.N[i]? = some x ∧ Loc X.env.scope x ∧ (X.fn x = true ∨ X.env.scope.names.lookup x = some .local) := by
  unfold ckLoc at h
  obtain ⟨h, h3⟩ := and2 h
  obtain ⟨h1, h2⟩ := and2 h
  refine ⟨by rw [k.N]; exact of_decide_eq_true h1, by rw [k.sc]; exact loc_of h2, ?_⟩
  rcases Bool.or_eq_true_iff.mp h3 with z | z
  · exact .inl (k.fnl x z)
  · exact .inr (by rw [k.sc]; exact of_decide_eq_true z)
theorem ckGl_of (k : XOk M C X c) {x : Str} (h : ckGl C x = true) : Gl X x ∧ (x == ("__debug__" : Str)) = false ∧ x ≠ "__name__" := by
  unfold ckGl at h
  obtain ⟨h1, h2⟩ := and2 h
  have p := plainN_of h2
  exact ⟨show X.env.scope.names.lookup x = some .globalImplicit by rw [k.sc]; exact of_decide_eq_true h1, p.1, p.2.2⟩
theorem ckBl_of (k : XOk M C X c) {x : Str} (h : ckBl C x = true) : Gl X x ∧ X.mg x = none ∧ (x == ("__debug__" : Str)) = false ∧ x ≠ "__name__" := by
  unfold ckBl at h
  obtain ⟨h1, h2⟩ := and2 h
  have p := ckGl_of k h1
  exact ⟨p.1, k.blt x h2, p.2.1, p.2.2⟩
theorem star_of {e : Expr} {es : List Expr} {env : Env} (h : plainE e = true) : starEach (e :: es) env = (false, eval e env) :: starEach es env := by
  cases e <;> first | rfl | (cases h)
theorem base_of {o : Expr} {f : Str} {env : Env} (h : plainE o = true) : attributeBase o f env (eval o env) = eval o env := by
  unfold attributeBase
  split
  · rename_i id _ _
    have : id ≠ ("super" : Str) := by
      simpa [plainE] using h
    simp [this]
  · rfl
theorem plainIx_of {b : Expr} (h : plainE b = true) : PlainIx b := by
  intro o i
  cases b <;> first | rfl | (cases h)
theorem isTrue_of {a : Expr} {env : Env} (h : notTest a = true) : ∀ whole, isTrue a env whole = (do let v ← whole; standAt a.pos; holding [v] (truthy v)) := by
  intro whole
  cases a with
  | UnaryOp op x p => cases op <;> first | rfl | (cases h)
  | BoolOp => cases h
  | IfExp => cases h
  | Compare => cases h
  | _ => rfl
theorem mark_of {op : CmpOp} {b : Expr} (h1 : op ≠ .In) (h2 : op ≠ .NotIn) : behindInMarks op b = false := nobehind b h1 h2
mutual
theorem flatEq_eq : ∀ {a b : D}, flatEq a b = true → a = b
  | .non, .non, _ => rfl
  | .bl a, .bl b, h => by rw [eq_of_beq (show (a == b) = true from h)]
  | .int a, .int b, h => by rw [eq_of_beq (show (a == b) = true from h)]
  | .str a, .str b, h => by rw [of_decide_eq_true (show decide (a = b) = true from h)]
  | .tup xs, .tup ys, h => by rw [flatsEq_eq (show flatsEq xs ys = true from h)]
  | .non, .bl _, h | .non, .int _, h | .non, .str _, h | .non, .ty _, h | .non, .tup _, h | .non, .lst _, h | .non, .ins _ _ _, h | .non, .cell _, h | .non, .dct _, h => by cases h
  | .bl _, .non, h | .bl _, .int _, h | .bl _, .str _, h | .bl _, .ty _, h | .bl _, .tup _, h | .bl _, .lst _, h | .bl _, .ins _ _ _, h | .bl _, .cell _, h | .bl _, .dct _, h => by cases h
  | .int _, .non, h | .int _, .bl _, h | .int _, .str _, h | .int _, .ty _, h | .int _, .tup _, h | .int _, .lst _, h | .int _, .ins _ _ _, h | .int _, .cell _, h | .int _, .dct _, h => by cases h
  | .str _, .non, h | .str _, .bl _, h | .str _, .int _, h | .str _, .ty _, h | .str _, .tup _, h | .str _, .lst _, h | .str _, .ins _ _ _, h | .str _, .cell _, h | .str _, .dct _, h => by cases h
  | .tup _, .non, h | .tup _, .bl _, h | .tup _, .int _, h | .tup _, .str _, h | .tup _, .ty _, h | .tup _, .lst _, h | .tup _, .ins _ _ _, h | .tup _, .cell _, h | .tup _, .dct _, h => by cases h
  | .ty _, _, h | .lst _, _, h | .ins _ _ _, _, h | .cell _, _, h | .dct _, _, h => by cases h
theorem flatsEq_eq : ∀ {xs ys : List D}, flatsEq xs ys = true → xs = ys
  | [], [], _ => rfl
  | x :: xs, y :: ys, h => by
    obtain ⟨h1, h2⟩ := Bool.and_eq_true_iff.mp (show (flatEq x y && flatsEq xs ys) = true from h)
    rw [flatEq_eq h1, flatsEq_eq h2]
  | [], _ :: _, h | _ :: _, [], h => by cases h
end
theorem flat_R {K : PySem.W.Frag} {T : Tab} {F : Hp} {a b : D} (h : flatEq a b = true) {v : V} (r : R K T F b v) : R K T F a v := by
  rw [flatEq_eq h]; exact r
theorem cst_of {e : Expr} {d d' : D} (h : flatEq d d' = true) (q : PE X e (liftE c (wC d'))) : PE X e (liftE c (wC d)) := by
  rw [flatEq_eq h]; exact q
theorem no2 {op : Value → Value → Sem Value} : ∃ r, OpR X op r ∧ Op2 c r dNo2 := ⟨fun _ _ _ _ => False, fun _ _ _ _ _ _ _ _ _ _ _ _ h => h.elim, fun _ _ _ _ _ _ _ _ _ _ _ _ _ _ w _ => w.elim⟩
theorem bin_ok (k : XOk M C X c) (op : Operator) : ∃ r, OpR X (binaryOp op) r ∧ Op2 c r (binD op) := by
  cases op with
  | Add => exact ⟨_, op_addD, k.K ▸ op2_add⟩
  | Sub => exact ⟨_, op_sub, op2_I0 fun _ _ _ => rfl⟩
  | Mult => exact ⟨_, op_mulI, op2_I fun _ _ _ => rfl⟩
  | FloorDiv => exact ⟨_, op_fdivW, op2_I fun _ _ _ => rfl⟩
  | Mod => exact ⟨_, op_mod, op2_I fun _ _ _ => rfl⟩
  | Pow => exact ⟨_, op_powI, op2_I fun _ _ _ => rfl⟩
  | LShift => exact ⟨_, op_shl, op2_I fun _ _ _ => rfl⟩
  | RShift => exact ⟨_, op_shr, op2_I fun _ _ _ => rfl⟩
  | _ => exact no2
theorem cmp_ok (k : XOk M C X c) (op : CmpOp) : ∃ r, OpR X (compareOp op) r ∧ Op2 c r (cmpD op) := by
  cases op with
  | Eq => exact ⟨_, op_eqA k.un, k.K ▸ op2_eq⟩
  | NotEq => exact ⟨_, op_neA k.un, k.K ▸ op2_ne⟩
  | Lt => exact ⟨_, op_lt, op2_I0 fun _ _ _ => rfl⟩
  | LtE => exact ⟨_, op_le, op2_I0 fun _ _ _ => rfl⟩
  | Gt => exact ⟨_, op_gt, op2_I0 fun _ _ _ => rfl⟩
  | GtE => exact ⟨_, op_ge, op2_I0 fun _ _ _ => rfl⟩
  | Is => exact ⟨_, op_isD, op2_is⟩
  | IsNot => exact ⟨_, op_notD, op2_not⟩
  | In => exact ⟨_, op_inC k.un, op2_in k.K k.pw.1 k.pw.2⟩
  | NotIn => exact ⟨_, op_notInC k.un, op2_in k.K k.pw.1 k.pw.2⟩
theorem aug_ok (op : Operator) : ∃ r, PIp X op r ∧ Op2 c r (augD op) := by
  cases op with
  | Add => exact ⟨_, ip_add, op2_ipI⟩
  | Sub => exact ⟨_, ip_sub, op2_ipI⟩
  | Mult => exact ⟨_, pip_of (opI fun _ _ _ _ _ _ _ hc q => imul_int q hc.ok), op2_I (C := MulOk) (g := fun i j => .int (i * j)) fun _ _ _ => rfl⟩
  | _ => exact ⟨fun _ _ _ _ => False, fun _ _ _ _ _ _ _ _ _ _ _ _ h => h.elim, fun _ _ _ _ _ _ _ _ _ _ _ _ _ _ w _ => w.elim⟩
theorem call_isqrt : CallR X (.builtin "math.isqrt") (fun xs H Q => ∃ i : Int, xs = [.int i] ∧ 0 ≤ i ∧ i.toNat.log2 ≤ 13000 ∧ Q (.int ((Float64.isqrt i.toNat : Nat) : Int)) H) := by
  intro pins s σ H xs us Q I r h
  obtain ⟨i, rfl, h0, h1, q⟩ := h
  obtain ⟨u, rfl, t, rfl⟩ := vals1 r
  exact call_function_meets PySem.W.MGF.kind_isqrt PySem.W.MGF.plain_isqrt PySem.W.MGF.entry_isqrt (PySem.W.MGF.args_isqrt _) (PySem.W.mg_run_isqrt i t (by omega) (by omega) (by omega)).meets ⟨.int _, H, I.tok _, ⟨_, rfl⟩, q⟩
theorem opn_isqrt : OpN c (fun xs H Q => ∃ i : Int, xs = [.int i] ∧ 0 ≤ i ∧ i.toNat.log2 ≤ 13000 ∧ Q (.int ((Float64.isqrt i.toNat : Nat) : Int)) H) bIsqrt := by
  intro F H σ ρ xs ds P E Q S r w q
  unfold bIsqrt at w
  split at w
  · obtain ⟨v, rfl, h⟩ := rs1 r
    cases h
    exact ⟨_, rfl, w.1, w.2.1, q _ _ F H w.2.2 S (Same.refl F) rfl⟩
  · exact w.elim
theorem opn_gcd : OpN c (fun vs H Q => rGcd vs H Q ∨ rGcd4 vs H Q) bGcd := by
  intro F H σ ρ xs ds P E Q S r w q
  unfold bGcd at w
  split at w
  · obtain ⟨v, u, rfl, h, h2⟩ := rs2 r
    cases h; cases h2
    exact .inl ⟨_, _, rfl, q _ _ F H w S (Same.refl F) rfl⟩
  · obtain ⟨v1, t1, rfl, h1, r⟩ := r
    obtain ⟨v2, t2, rfl, h2, r⟩ := r
    obtain ⟨v3, v4, rfl, h3, h4⟩ := rs2 r
    cases h1; cases h2; cases h3; cases h4
    exact .inr ⟨_, _, _, _, rfl, q _ _ F H w S (Same.refl F) rfl⟩
  · exact w.elim
theorem lv_bits {o : Expr} {wo : WE} {apos pos : Pos} (ho : PE X o (liftE c wo)) (hb : attributeBase o "bit_length" X.env (eval o X.env) = eval o X.env) (hl : (apos.endLine == pos.line) = true) :
    PE X (.Call (.Attribute o "bit_length" apos) [] [] pos) (liftE c (w1 dBits wo)) := by
  refine pe_weak (pe_bits ho hb hl) fun σ H Q ⟨F, ρ, P, E, S, w, q, x⟩ => ⟨F, ρ, _, E, S, w, fun d v F1 H1 w1 S1 e1 r1 => ?_, x⟩
  cases d with
  | int i => cases r1; exact ⟨i, rfl, q _ _ F1 H1 w1 S1 e1 rfl⟩
  | _ => exact False.elim w1
theorem blt_ok (k : XOk M C X c) {f : BI} {x : Str} {p pos : Pos} {y : Expr} {ys : List Expr} {wa : WA} (h1 : (if f = .isqrt ∨ f = .gcd then ckGl C x && C.libs.contains x else ckBl C x) = true) (h2 : x = biName f) (ha : PA X (y :: ys) (liftA c wa)) (hy : plainE y = true) (hpl : (backTo pos (starEach ys X.env)).any (·.1) = false) :
    PE X (.Call (.Name x p) (y :: ys) [] pos) (liftE c (wN (biD f) wa)) := by
  have hs := star_of (es := ys) (env := X.env) hy
  cases f with
  | isqrt =>
    rw [if_pos (.inl rfl)] at h1
    obtain ⟨g, l⟩ := and2 h1
    have p := ckGl_of k g
    subst h2
    exact lv_callM call_isqrt opn_isqrt p.1 (k.libq l) ha p.2.1 hs hpl
  | gcd =>
    rw [if_pos (.inr rfl)] at h1
    obtain ⟨g, l⟩ := and2 h1
    have p := ckGl_of k g
    subst h2
    exact lv_callM (cr_gcd.or cr_gcd4) opn_gcd p.1 (k.libg l) ha p.2.1 hs hpl
  | abs => obtain ⟨g, m, d, n⟩ := ckBl_of k h1; exact lv_callB call_abs opn_abs g m (by subst h2; decide +kernel) ha n d hs hpl
  | len => obtain ⟨g, m, d, n⟩ := ckBl_of k h1; exact lv_callB call_lenD (k.K ▸ opn_len) g m (by subst h2; decide +kernel) ha n d hs hpl
  | int => obtain ⟨g, m, d, n⟩ := ckBl_of k h1; exact lv_callTy call_intD opn_int g m (by subst h2; decide +kernel) ha n d hs hpl
  | max => obtain ⟨g, m, d, n⟩ := ckBl_of k h1; exact lv_callB (call_maxA k.calm) (k.K ▸ opn_max) g m (by subst h2; decide +kernel) ha n d hs hpl
  | min => obtain ⟨g, m, d, n⟩ := ckBl_of k h1; exact lv_callB (call_minA k.calm) (k.K ▸ opn_min) g m (by subst h2; decide +kernel) ha n d hs hpl
  | all => obtain ⟨g, m, d, n⟩ := ckBl_of k h1; exact lv_callB (cr_all k.calm) (k.K ▸ opn_all) g m (by subst h2; decide +kernel) ha n d hs hpl
  | any => obtain ⟨g, m, d, n⟩ := ckBl_of k h1; exact lv_callB (cr_any k.calm) (k.K ▸ opn_any) g m (by subst h2; decide +kernel) ha n d hs hpl
  | sum => obtain ⟨g, m, d, n⟩ := ckBl_of k h1; exact lv_callB (cr_sum k.calm) (k.K ▸ opn_sum) g m (by subst h2; decide +kernel) ha n d hs hpl
  | tuple => obtain ⟨g, m, d, n⟩ := ckBl_of k h1; exact lv_callTy call_tuple_of (k.K ▸ opn_tuple) g m (by subst h2; decide +kernel) ha n d hs hpl
  | str => obtain ⟨g, m, d, n⟩ := ckBl_of k h1; exact lv_callTy call_str_int opn_str g m (by subst h2; decide +kernel) ha n d hs hpl
  | list => obtain ⟨g, m, d, n⟩ := ckBl_of k h1; exact lv_callTy call_list_of (k.K ▸ opn_list) g m (by subst h2; decide +kernel) ha n d hs hpl
theorem ckA_plain : ∀ {es : List IE} {ys : List Expr} {pos : Pos} {env : Env}, ckA C es ys = true → (backTo pos (starEach ys env)).any (·.1) = false
  | [], [], _, _, _ => rfl
  | e :: es, y :: ys, pos, env, h => by
    unfold ckA at h
    obtain ⟨h, h3⟩ := and2 h
    obtain ⟨h1, h2⟩ := and2 h
    rw [star_of h1]
    have := ckA_plain (pos := pos) (env := env) h3
    simpa [backTo] using this
  | [], _ :: _, _, _, h => by cases h
  | _ :: _, [], _, _, h => by cases h
theorem ckA_head {es : List IE} {z : Expr} {zs : List Expr} (h : ckA C es (z :: zs) = true) : plainE z = true ∧ ∀ (pos : Pos) (env : Env), (backTo pos (starEach zs env)).any (·.1) = false := by
  cases es with
  | nil => cases h
  | cons e es =>
    unfold ckA at h
    obtain ⟨h, h3⟩ := and2 h
    exact ⟨(and2 h).1, fun pos env => ckA_plain h3⟩
theorem ckA_form : ∀ {es : List IE} {ys : List Expr} {pos : Pos} {env : Env}, ckA C es ys = true → (backTo pos (starEach ys env)).all (fun x => !x.1) = true
  | [], [], _, _, _ => rfl
  | e :: es, y :: ys, pos, env, h => by
    unfold ckA at h
    obtain ⟨h, h3⟩ := and2 h
    obtain ⟨h1, h2⟩ := and2 h
    rw [star_of h1]
    have := ckA_form (pos := pos) (env := env) h3
    simpa [backTo] using this
  | [], _ :: _, _, _, h => by cases h
  | _ :: _, [], _, _, h => by cases h
abbrev pl0 (o : Expr) (env : Env) : Sem Bool := (do return (← importBound o env).getD true)
theorem ht_of {o : Expr} {name : Str} {apos pos : Pos} {args : List Expr} {env : Env} (hb : attributeBase o name env (eval o env) = eval o env) (hf : methodCallForm (args.length + ([] : List Keyword).length) (backTo pos (starEach args env)) (backToKw pos (keywordEach [] env)) = true) (hline : (apos.endLine == pos.line) = true) :
    eval (.Call (.Attribute o name apos) args [] pos) env = (do
      let ov ← eval o env
      standAt apos.atName
      let (f, first) ← holding [ov] (getMethod ov name (pl0 o env))
      callWith pos f first (backTo pos (starEach args env)) (backToKw pos (keywordEach [] env))) := by
  have hpos : methodCallPos true o env apos pos = pure pos := by unfold methodCallPos; simp [hline]
  show (do let ov ← attributeBase o name env (eval o env); standAt apos.atName; methodCall o name apos pos env ov (args.length + ([] : List Keyword).length) (backTo pos (starEach args env)) (backToKw pos (keywordEach [] env))) = _
  rw [hb]
  unfold methodCall
  rw [hf, hpos]
  rfl
end
end Tr

set_option maxHeartbeats 4000000
namespace Tr
open PySem PySem.Spec PyProof.Rows L2

section
variable {M : Sm}
theorem lks_of {X : Cx} {c : Ct} {C : Ck} (k : XOk M C X c) : ∀ {ops : List CmpOp} {es : List IE} {ys : List Expr}, (∀ e y, e ∈ es → ckE C e y = true → PE X y (liftE c (semE M e))) → ops.length = es.length → ckA C es ys = true → Lks X c ops ys (semL M ops es)
  | [], [], [], _, _, _ => .nil
  | op :: ops, e :: es, y :: ys, ih, hl, h => by
    unfold ckA at h
    obtain ⟨h, h3⟩ := and2 h
    obtain ⟨h1, h2⟩ := and2 h
    exact .cons ⟨cmp_ok k op, ih e y List.mem_cons_self h2⟩ (lks_of k (fun e y he hy => ih e y (List.mem_cons_of_mem _ he) hy) (by simpa using hl) h3)
  | [], _ :: _, _, _, hl, _ => by cases hl
  | _ :: _, [], _, _, hl, _ => by cases hl
  | [], [], _ :: _, _, _, h => by cases h
  | _ :: _, _ :: _, [], _, _, h => by cases h
theorem nomarks {ops : List CmpOp} {ys : List Expr} : ∀ {o : CmpOp} {y : Expr}, (∀ q ∈ o :: ops, q ≠ .In ∧ q ≠ .NotIn) → lastMarks (o :: ops) (y :: ys) = false := by
  intro o y
  induction ops generalizing o y ys with
  | nil =>
    intro h
    cases ys with
    | nil => exact mark_of (h o List.mem_cons_self).1 (h o List.mem_cons_self).2
    | cons z zs => show lastMarks [] (z :: zs) = false; rfl
  | cons p ps ih =>
    intro h
    cases ys with
    | nil => show lastMarks (p :: ps) [] = false; cases ps <;> rfl
    | cons z zs => exact ih fun q hq => h q (List.mem_cons_of_mem _ hq)

theorem marks_of {ops : List CmpOp} (h : (ops.all fun q => !decide (q = .In) && !decide (q = .NotIn)) = true) : ∀ q ∈ ops, q ≠ .In ∧ q ≠ .NotIn := fun q hq => by
  have := List.all_eq_true.mp h q hq
  simpa using this
theorem two_of {C : Ck} {o o' : CmpOp} {os : List CmpOp} {es : List IE} {ys : List Expr} (hl : (o :: o' :: os).length = es.length) (h : ckA C es ys = true) : ∃ z z' zs, ys = z :: z' :: zs := by
  match es, ys, hl, h with
  | _ :: _ :: _, z :: z' :: zs, _, _ => exact ⟨z, z', zs, rfl⟩
  | _ :: _ :: _, [], _, h => cases h
  | _ :: _ :: _, [_], _, h => unfold ckA at h; obtain ⟨_, h⟩ := and2 h; cases h
def isBoolT : IT → Bool
  | .and _ _ => true | .or _ _ => true | _ => false
theorem isBool_of {C : Ck} {b : IT} {op : BoolOp} {ys : List Expr} {p : Pos} (h : ckT C b (.BoolOp op ys p) = true) : isBoolT b = true := by
  cases b with
  | and => rfl
  | or => rfl
  | val e => exact absurd (and2 (show (ckE C e _ && notTest _) = true from h)).2 (by simp [notTest])
  | _ => cases h
mutual
theorem sg : ∀ (g : IG) {C : Ck} {X : Cx} {c : Ct} (_ : XOk M C X c) (y : Expr), ckG C g y = true → PG X y (liftG c (slG g) (semG g))
  | .nm i, C, X, c, k, y, h => by
    cases y with
    | Name x p =>
      have q := ckLoc_of k (show ckLoc C i x = true from h)
      exact lg_name k.nd q.1 q.2.1 q.2.2
    | _ => cases h
  | .tup gs, C, X, c, k, y, h => by
    cases y with
    | Tuple ys n p =>
      have q := sgs gs k ys h
      exact lg_tup k.K k.calm q.1 q.2.1 q.2.2
    | _ => cases h
  | .lst gs, C, X, c, k, y, h => by
    cases y with
    | Tuple ys n p =>
      have q := sgs gs k ys h
      exact lg_lst k.K k.calm q.1 q.2.1 q.2.2
    | _ => cases h
theorem sgs : ∀ (gs : List IG) {C : Ck} {X : Cx} {c : Ct} (_ : XOk M C X c) (ys : List Expr), ckGs C gs ys = true → PGs X ys (liftGs c (slGs gs) (semGs gs)) ∧ (assignEach ys X.env).length = gs.length ∧ (assignEach ys X.env).findIdx? (·.1) = none
  | [], C, X, c, k, ys, h => by
    cases ys with
    | nil => exact ⟨lgs_nil, rfl, rfl⟩
    | cons => cases h
  | g :: gs, C, X, c, k, ys, h => by
    cases ys with
    | nil => cases h
    | cons y ys =>
      obtain ⟨h, h3⟩ := and2 (show (plainE y && ckG C g y && ckGs C gs ys) = true from h)
      obtain ⟨h1, h2⟩ := and2 h
      obtain ⟨q1, q2, q3⟩ := sgs gs k ys h3
      have ea : assignEach (y :: ys) X.env = (false, assign y X.env) :: assignEach ys X.env := by
        cases y <;> first | rfl | (cases h1)
      refine ⟨lgs_cons (sg g k y h2) q1 (by rw [ea]; rfl), by rw [ea]; simpa using q2, ?_⟩
      rw [ea, List.findIdx?_cons]
      simp [q3]
end
theorem folded_of {y : Expr} {env : Env} (h : plainE y = true) : ∀ x, foldedSetIterable y env x = pure x := by
  intro x
  cases y <;> first | rfl | (cases h)
theorem folded_call {f : Expr} {ys : List Expr} {kw : List Keyword} {p : Pos} {env : Env} : ∀ x, foldedSetIterable (.Call f ys kw p) env x = pure x := fun _ => rfl
theorem ckI_fold {C : Ck} {tg : Expr} {it : II} {y : Expr} {env : Env} (h : ckI C tg it y = true) : ∀ x, foldedSetIterable y env x = pure x := by
  cases it with
  | lst e => exact folded_of (and2 (show (ckE C e y && plainE y) = true from h)).2
  | tup e => exact folded_of (and2 (show (ckE C e y && plainE y) = true from h)).2
  | seq e => exact folded_of (and2 (show (ckE C e y && plainE y) = true from h)).2
  | rg1 e => cases y <;> first | exact folded_call | (cases h)
  | rg2 a b => cases y <;> first | exact folded_call | (cases h)
  | rg3 a b k => cases y <;> first | exact folded_call | (cases h)
  | rev1 e => cases y <;> first | exact folded_call | (cases h)
  | zip es => cases y <;> first | exact folded_call | (cases h)
  | enm e => cases y <;> first | exact folded_call | (cases h)
  | enS e => cases y <;> first | exact folded_call | (cases h)
  | str e => exact folded_of (and2 (show (ckE C e y && plainE y) = true from h)).2
theorem ckKs_facts {C : Ck} : ∀ {ns : List Str} {es : List IE} {kws : List Keyword} {pos : Pos} {env : Env}, ckKs C ns es kws = true → (backToKw pos (keywordEach kws env)).all (·.1.isSome) = true ∧ (backToKw pos (keywordEach kws env)).filterMap (·.1) = ns ∧ (backToKw pos (keywordEach kws env)).any (·.1.isNone) = false
  | [], [], [], _, _, _ => ⟨rfl, rfl, rfl⟩
  | n :: ns, e :: es, ⟨some m, y, p⟩ :: kws, pos, env, h => by
    obtain ⟨h, h3⟩ := and2 (show (decide (m = n) && ckE C e y && ckKs C ns es kws) = true from h)
    obtain ⟨h1, _⟩ := and2 h
    obtain rfl := of_decide_eq_true h1
    obtain ⟨a, b, d⟩ := ckKs_facts (pos := pos) (env := env) h3
    refine ⟨?_, ?_, ?_⟩
    · show ((some m).isSome && (backToKw pos (keywordEach kws env)).all (·.1.isSome)) = true
      rw [a]; rfl
    · show m :: (backToKw pos (keywordEach kws env)).filterMap (·.1) = m :: ns
      rw [b]
    · show ((some m).isNone || (backToKw pos (keywordEach kws env)).any (·.1.isNone)) = false
      rw [d]; rfl
  | [], [], _ :: _, _, _, h => by cases h
  | [], _ :: _, _, _, _, h => by cases h
  | _ :: _, [], _, _, _, h => by cases h
  | _ :: _, _ :: _, [], _, _, h => by cases h
  | _ :: _, _ :: _, ⟨none, _, _⟩ :: _, _, _, h => by cases h
/-- what the parts of a comprehension are -/
structure LcOk (M : Sm) (C : Ck) (X : Cx) (c : Ct) (own : List (Str × Nat)) (g : IG) (it : II) (cond : List IT) (elt : IE) (y tg iter : Expr) (ifs : List Expr) (scope : Scope) : Prop where
  hi : PI X tg iter (liftI c (semI M it))
  ok : BlkOk X.N X.env.scope scope own
  hsl : ∀ i ∈ slG g, i ∈ own.map (·.2)
  hg : ∀ (s : Shared) (H : Hp) (Cc : Addr) (cl : List (Str × Addr)) (fp : List Addr) (B : Hp), PG (X.blk s H scope (compEnvC scope cl Cc X.env) fp) tg (liftG (c.at B) (slG g) (semG g))
  ht : ∃ tt, TestOk tt c (semC M cond) ∧ ∀ (s : Shared) (H : Hp) (Cc : Addr) (cl : List (Str × Addr)) (fp : List Addr), PTs (X.blk s H scope (compEnvC scope cl Cc X.env) fp) ifs tt
  he : ∀ (s : Shared) (H : Hp) (Cc : Addr) (cl : List (Str × Addr)) (fp : List Addr) (B : Hp), PE (X.blk s H scope (compEnvC scope cl Cc X.env) fp) y (liftE (c.at B) (semE M elt))
  hs : ∀ x, foldedSetIterable iter X.env x = pure x

theorem inO_ok {C : Ck} {X : Cx} {c : Ct} (k : XOk M C X c) {neg : Bool} {e : IE} {i : Nat} {y : Expr} {o : CmpOp} {x : Str} {p p1 : Pos} (se : ∀ y, ckE C e y = true → PE X y (liftE c (semE M e))) (h : (decide (o = if neg = true then .NotIn else .In) && ckE C e y && ckVar C i x) = true) : PE X (.Compare y [o] [.Name x p1] p) (liftE c (wInO neg (semE M e) i)) ∧ PT X (.Compare y [o] [.Name x p1] p) (liftT c (wTst (wInO neg (semE M e) i))) := by
    obtain ⟨h, h3⟩ := and2 h
    obtain ⟨h1, h2⟩ := and2 h
    have q := ckVar_of k h3
    have eo := of_decide_eq_true h1
    cases neg with
    | true =>
      obtain rfl : o = .NotIn := eo
      exact ⟨lv_inO k.K (op_notInA k.un) (se y h2) q.1 q.2.1 q.2.2.1 q.2.2.2 rfl, lt_inO k.K (op_notInA k.un) (se y h2) q.1 q.2.1 q.2.2.1 q.2.2.2 rfl⟩
    | false =>
      obtain rfl : o = .In := eo
      exact ⟨lv_inO k.K (op_inA k.un) (se y h2) q.1 q.2.1 q.2.2.1 q.2.2.2 rfl, lt_inO k.K (op_inA k.un) (se y h2) q.1 q.2.1 q.2.2.1 q.2.2.2 rfl⟩
mutual
theorem se : ∀ (e : IE) {C : Ck} {X : Cx} {c : Ct} (_ : XOk M C X c) (y : Expr), ckE C e y = true → PE X y (liftE c (semE M e))
  | .var i, C, X, c, k, y, h => by
    cases y with
    | Name x p =>
      have q := ckVar_of k (show ckVar C i x = true from h)
      exact lv_var q.1 q.2.1 q.2.2.1 q.2.2.2
    | _ => cases h
  | .cst d, C, X, c, k, y, h => by
    cases y with
    | Constant z n p =>
      cases z with
      | int z => exact cst_of h lv_int
      | bool z => exact cst_of h lv_bl
      | str z => exact cst_of h lv_str
      | none => exact cst_of h lv_non
      | _ => cases h
    | Name x p =>
      obtain ⟨h1, h2⟩ := and2 (show (ckGl C x && (match C.con x with | some d' => flatEq d d' | none => false)) = true from h)
      have g := ckGl_of k h1
      cases e : C.con x with
      | none => rw [e] at h2; cases h2
      | some d' =>
        rw [e] at h2
        obtain ⟨v, u, h3, h4, h5⟩ := k.cons x d' e
        exact cst_of h2 (lv_glob g.1 h3 h4 h5 g.2.1)
    | _ => cases h
  | .bin op a b, C, X, c, k, y, h => by
    cases y with
    | BinOp x o z p =>
      obtain ⟨h, h3⟩ := and2 (show (decide (op = o) && ckE C a x && ckE C b z) = true from h)
      obtain ⟨h1, h2⟩ := and2 h
      obtain rfl := of_decide_eq_true h1
      obtain ⟨r, ho, h0⟩ := bin_ok k op
      exact lv_op ho h0 (se a k x h2) (se b k z h3)
    | _ => cases h
  | .neg a, C, X, c, k, y, h => by
    cases y with
    | UnaryOp op x p =>
      cases op with
      | USub => exact lv_un un_neg op1_neg (se a k x h)
      | _ => cases h
    | _ => cases h
  | .cmp op a b, C, X, c, k, y, h => by
    cases y with
    | Compare x os ys p =>
      match os, ys, h with
      | [o], [z], h =>
        obtain ⟨h, h5⟩ := and2 (show (decide (op = o) && (!behindInMarks o z) && ckE C a x && ckE C b z) = true from h)
        obtain ⟨h, h4⟩ := and2 h
        obtain ⟨h1, h2⟩ := and2 h
        obtain rfl := of_decide_eq_true h1
        obtain ⟨r, ho, h0⟩ := cmp_ok k op
        exact lv_cmp ho h0 (se a k x h4) (se b k z h5) (by simpa using h2)
    | _ => cases h
  | .chain a ops es, C, X, c, k, y, h => by
    cases y with
    | Compare x os ys p =>
      match os, h with
      | o :: o' :: os, h =>
        obtain ⟨h, h5⟩ := and2 (show (decide (ops = o :: o' :: os) && (ops.all fun q => !decide (q = .In) && !decide (q = .NotIn)) && decide (ops.length = es.length) && ckE C a x && ckA C es ys) = true from h)
        obtain ⟨h, h4⟩ := and2 h
        obtain ⟨h, h3⟩ := and2 h
        obtain ⟨h1, h2⟩ := and2 h
        obtain rfl := of_decide_eq_true h1
        have mk := marks_of h2
        have lk := lks_of k (fun e y he hy => sl es k e y he hy) (of_decide_eq_true h3) h5
        obtain ⟨z, z', zs, rfl⟩ := two_of (of_decide_eq_true h3) h5
        exact lv_chain (se a k x h4) lk (nomarks mk)
    | _ => cases h
  | .and a b, C, X, c, k, y, h => by
    cases y with
    | BoolOp op ys p =>
      match op, ys, h with
      | .And, x :: z :: r, h =>
        obtain ⟨h1, h2⟩ := and2 (show (ckE C a x && (if r.isEmpty then ckE C b z else ckE C b (.BoolOp .And (z :: r) p))) = true from h)
        refine lv_and (se a k x h1) ?_
        cases r with
        | nil => exact lv_one (se b k z h2)
        | cons => exact se b k _ h2
    | _ => cases h
  | .or a b, C, X, c, k, y, h => by
    cases y with
    | BoolOp op ys p =>
      match op, ys, h with
      | .Or, x :: z :: r, h =>
        obtain ⟨h1, h2⟩ := and2 (show (ckE C a x && (if r.isEmpty then ckE C b z else ckE C b (.BoolOp .Or (z :: r) p))) = true from h)
        refine lv_or (se a k x h1) ?_
        cases r with
        | nil => exact lv_one (se b k z h2)
        | cons => exact se b k _ h2
    | _ => cases h
  | .not a, C, X, c, k, y, h => by
    cases y with
    | UnaryOp op x p =>
      cases op with
      | Not => exact lv_not (se a k x h)
      | _ => cases h
    | _ => cases h
  | .ite t a b, C, X, c, k, y, h => by
    cases y with
    | IfExp q x z p =>
      obtain ⟨h, h3⟩ := and2 (show (ckT C t q && ckE C a x && ckE C b z) = true from h)
      obtain ⟨h1, h2⟩ := and2 h
      exact lv_if (st t k q h1) (se a k x h2) (se b k z h3)
    | _ => cases h
  | .tup es, C, X, c, k, y, h => by
    cases y with
    | Tuple ys n p => exact lv_tup (sa es k ys h)
    | _ => cases h
  | .lst es, C, X, c, k, y, h => by
    cases y with
    | List ys p => exact lv_lst (sa es k ys h)
    | _ => cases h
  | .ix a b, C, X, c, k, y, h => by
    cases y with
    | Subscript x z p =>
      obtain ⟨h, h3⟩ := and2 (show (ckE C a x && ckE C b z && plainE z) = true from h)
      obtain ⟨h1, h2⟩ := and2 h
      exact lv_ix k.K (se a k x h1) (se b k z h2) (plainIx_of h3)
    | _ => cases h
  | .ixO i b, C, X, c, k, y, h => by
    cases y with
    | Subscript x z p =>
      cases x with
      | Name x p1 =>
        obtain ⟨h, h3⟩ := and2 (show (ckVar C i x && ckE C b z && plainE z) = true from h)
        obtain ⟨h1, h2⟩ := and2 h
        have q := ckVar_of k h1
        exact lv_ixO k.K q.1 q.2.1 q.2.2.1 q.2.2.2 (se b k z h2) (plainIx_of h3)
      | _ => cases h
    | _ => cases h
  | .lenO i, C, X, c, k, y, h => by
    cases y with
    | Call f ys kw p =>
      match f, ys, kw, h with
      | .Name f _, [.Name x _], [], h =>
        obtain ⟨h, h3⟩ := and2 (show (decide (f = ("len" : Str)) && ckBl C f && ckVar C i x) = true from h)
        obtain ⟨h1, h2⟩ := and2 h
        have q := ckVar_of k h3
        have g := ckBl_of k h2
        exact lv_lenO (of_decide_eq_true h1) q.1 q.2.1 q.2.2.1 q.2.2.2 g.1 g.2.1
    | _ => cases h
  | .fldO n, C, X, c, k, y, h => by
    cases y with
    | Attribute x f p =>
      cases x with
      | Name x p1 =>
        obtain ⟨h1, h⟩ := and2 (show (ckVar C 0 x && (decide (f = C.mid n) && plainE (.Name x p1))) = true from h)
        obtain ⟨h2, h3⟩ := and2 h
        have e := of_decide_eq_true h2
        rw [k.mid] at e
        subst e
        have q := ckVar_of k h1
        exact lv_fldO k.K k.kok q.1 q.2.1 q.2.2.1 q.2.2.2 (base_of h3)
      | _ => cases h
    | _ => cases h
  | .fld a n, C, X, c, k, y, h => by
    cases y with
    | Attribute x f p =>
      obtain ⟨h, h3⟩ := and2 (show (decide (f = C.mid n) && ckE C a x && plainE x) = true from h)
      obtain ⟨h1, h2⟩ := and2 h
      have e := of_decide_eq_true h1
      rw [k.mid] at e
      subst e
      exact lv_fld k.K k.kok (se a k x h2) (base_of h3)
    | _ => cases h
  | .call f es, C, X, c, k, y, h => by
    cases y with
    | Call x ys kw p =>
      match x, ys, kw, h with
      | .Name x _, z :: zs, [], h =>
        obtain ⟨h, h3⟩ := and2 (show (ckGl C x && decide (C.fn x = some f) && ckA C es (z :: zs)) = true from h)
        obtain ⟨h1, h2⟩ := and2 h
        have g := ckGl_of k h1
        obtain ⟨j, fa, fd, ps, Fo, hw, hr, hm, hk, hb⟩ := (k.fns x f (of_decide_eq_true h2)).ex
        have pl := ckA_head h3
        exact lv_call k.tk Fo hw hr g.1 hm hk hb (sa es k _ h3) g.2.1 (star_of pl.1) (pl.2 _ _)
    | _ => cases h
  | .make n es, C, X, c, k, y, h => by
    cases y with
    | Call x ys kw p =>
      match x, ys, kw, h with
      | .Name x _, z :: zs, [], h =>
        obtain ⟨h, h3⟩ := and2 (show (ckGl C x && decide (C.ma x = some n) && ckA C es (z :: zs)) = true from h)
        obtain ⟨h1, h2⟩ := and2 h
        have g := ckGl_of k h1
        obtain ⟨j, fa, fd, ps, Mk0, Fo, hw, hr, hm, hb⟩ := (k.mks x n (of_decide_eq_true h2)).ex
        have pl := ckA_head h3
        exact lv_make k.tk Mk0 Fo hw hr g.1 hm hb (sa es k _ h3) g.2.1 (star_of pl.1) (pl.2 _ _)
    | _ => cases h
  | .meth m o es, C, X, c, k, y, h => by
    cases y with
    | Call x ys kw p =>
      match x, kw, h with
      | .Attribute x f ap, [], h =>
        obtain ⟨h0, h⟩ := and2 (show ((ap.endLine == p.line) && decide (ys.length < 29) && (decide (f = C.mid m) && ckE C o x && plainE x && ckA C es ys)) = true from h)
        obtain ⟨hl, hn⟩ := and2 h0
        obtain ⟨h, h4⟩ := and2 h
        obtain ⟨h, h3⟩ := and2 h
        obtain ⟨h1, h2⟩ := and2 h
        have e := of_decide_eq_true h1
        rw [k.mid] at e
        subst e
        have mt : ∀ q w, ((M.mt q m).map M.sem) = some w → MethAt X c q (c.T.nm m) w := fun q w e => by
          cases z : M.mt q m with
          | none => rw [z] at e; cases e
          | some f => rw [z] at e; cases e; exact k.mts q m f z
        have pa := sa es k ys h4
        have hf : methodCallForm (ys.length + ([] : List Keyword).length) (backTo p (starEach ys X.env)) (backToKw p (keywordEach [] X.env)) = true := by
          unfold methodCallForm
          rw [ckA_form h4]
          have := of_decide_eq_true hn
          simp [keywordEach, backToKw]
          omega
        have ht := ht_of (env := X.env) (args := ys) (base_of (f := c.T.nm m) h3) hf hl
        cases ys with
        | nil =>
          have e0 : semA M es = wNil := by
            cases es with
            | nil => rfl
            | cons => cases h4
          show PE X _ (liftE c (wMeth m _ (semE M o) (semA M es)))
          rw [e0]
          exact lv_meth0 k.tk k.kok.inj mt (se o k x h2) ht
        | cons z zs =>
          have pl := ckA_head h4
          exact lv_meth k.tk k.kok.inj mt (se o k x h2) pa (star_of pl.1) (pl.2 _ _) ht
    | _ => cases h
  | .bits a, C, X, c, k, y, h => by
    cases y with
    | Call x ys kw p =>
      match x, ys, kw, h with
      | .Attribute x f ap, [], [], h =>
        obtain ⟨h, h4⟩ := and2 (show (decide (f = ("bit_length" : Str)) && (ap.endLine == p.line) && ckE C a x && plainE x) = true from h)
        obtain ⟨h, h3⟩ := and2 h
        obtain ⟨h1, h2⟩ := and2 h
        have e := of_decide_eq_true h1
        subst e
        exact lv_bits (se a k x h3) (base_of h4) h2
    | _ => cases h
  | .blt f es, C, X, c, k, y, h => by
    cases y with
    | Call x ys kw p =>
      match x, ys, kw, h with
      | .Name x _, z :: zs, [], h =>
        obtain ⟨h, h3⟩ := and2 (show ((if f = .isqrt ∨ f = .gcd then ckGl C x && C.libs.contains x else ckBl C x) && decide (x = biName f) && ckA C es (z :: zs)) = true from h)
        obtain ⟨h1, h2⟩ := and2 h
        have pl := ckA_head h3
        exact blt_ok k h1 (of_decide_eq_true h2) (sa es k _ h3) pl.1 (pl.2 _ _)
    | _ => cases h
  | .isB t a, C, X, c, k, y, h => by
    cases y with
    | Call x ys kw p =>
      match x, ys, kw, h with
      | .Name f _, [z, .Name y _], [], h =>
        obtain ⟨h, h7⟩ := and2 (show (decide (f = ("isinstance" : Str)) && ckBl C f && ckBl C y && decide (y = tyName t) && (["int", "bool", "tuple", "list", "str"].contains t) && ckE C a z && plainE z) = true from h)
        obtain ⟨h, h6⟩ := and2 h
        obtain ⟨h, h5⟩ := and2 h
        obtain ⟨h, h4⟩ := and2 h
        obtain ⟨h, h3⟩ := and2 h
        obtain ⟨h1, h2⟩ := and2 h
        have g := ckBl_of k h2
        have g2 := ckBl_of k h3
        have e4 := of_decide_eq_true h4
        refine lv_isB k.K k.kok (of_decide_eq_true h1) g.1 g.2.1 g2.1 g2.2.1 ?_ g2.2.2.2 g2.2.2.1 (se a k z h6) (star_of h7)
        subst e4
        simp only [List.contains_cons, List.contains_nil, Bool.or_false, Bool.or_eq_true, beq_iff_eq] at h5
        rcases h5 with rfl | rfl | rfl | rfl | rfl <;> decide +kernel
    | _ => cases h
  | .isC n a, C, X, c, k, y, h => by
    cases y with
    | Call x ys kw p =>
      match x, ys, kw, h with
      | .Name f _, [z, .Name y _], [], h =>
        obtain ⟨h, h7⟩ := and2 (show (decide (f = ("isinstance" : Str)) && ckBl C f && ckGl C y && decide (C.cl y = some n) && ckE C a z && plainE z) = true from h)
        obtain ⟨h, h6⟩ := and2 h
        obtain ⟨h, h4⟩ := and2 h
        obtain ⟨h, h3⟩ := and2 h
        obtain ⟨h1, h2⟩ := and2 h
        have g := ckBl_of k h2
        have g2 := ckGl_of k h3
        exact lv_isC k.K k.kok (of_decide_eq_true h1) g.1 g.2.1 g2.1 (k.cls y n (of_decide_eq_true h4)) g2.2.1 (se a k z h6) (star_of h7)
    | _ => cases h
  | .maxN es kes, C, X, c, k, y, h => by
    cases y with
    | Call x ys kws p =>
      match x, ys, h with
      | .Name x _, z :: zs, h =>
        obtain ⟨h, h4⟩ := and2 (show (decide (x = ("max" : Str)) && ckBl C x && ckKs C ["default"] kes kws && ckA C es (z :: zs)) = true from h)
        obtain ⟨h, h3⟩ := and2 h
        obtain ⟨h1, h2⟩ := and2 h
        have g := ckBl_of k h2
        have pl := ckA_head h4
        have f := ckKs_facts (pos := p) (env := X.env) h3
        exact lv_maxN k.K k.calm k.un (of_decide_eq_true h1) g.1 g.2.1 g.2.2.1 (sa es k _ h4) (sk kes ["default"] k kws h3) (star_of pl.1) (pl.2 _ _) f.1 f.2.1 f.2.2
    | _ => cases h
  | .makeK n es kes, C, X, c, k, y, h => by
    cases y with
    | Call x ys kws p =>
      match x, ys, h with
      | .Name x _, z :: zs, h =>
        cases e : C.shp n with
        | none =>
          have h : (match C.shp n with | some sh => ckGl C x && decide (C.maK x = some sh.k) && ckKs C sh.ks kes kws && ckA C es (z :: zs) | none => false) = true := h
          rw [e] at h
          cases h
        | some sh =>
          have h : (match C.shp n with | some sh => ckGl C x && decide (C.maK x = some sh.k) && ckKs C sh.ks kes kws && ckA C es (z :: zs) | none => false) = true := h
          rw [e] at h
          obtain ⟨h, h4⟩ := and2 (show (ckGl C x && decide (C.maK x = some sh.k) && ckKs C sh.ks kes kws && ckA C es (z :: zs)) = true from h)
          obtain ⟨h, h3⟩ := and2 h
          obtain ⟨h1, h2⟩ := and2 h
          have g := ckGl_of k h1
          obtain ⟨j, fa, fd, ps, Mk0, Fo, hw, hr, hm, hb⟩ := (k.mkk x n sh e (of_decide_eq_true h2)).ex
          have em : M.shp n = some sh := by rw [← k.hshp]; exact e
          have pl := ckA_head h4
          have f := ckKs_facts (pos := p) (env := X.env) h3
          show PE X _ (liftE c (wMkK (M.shp n) M.ini (semA M es) (semA M kes)))
          rw [em]
          exact lv_makeK k.tk Mk0 Fo hw hr g.1 hm k.K hb (sa es k _ h4) (sk kes sh.ks k kws h3) f.1 f.2.1 g.2.1 (star_of pl.1) (by rw [ckA_plain h4, f.2.2]; rfl)
    | _ => cases h
  | .callK n es kes, C, X, c, k, y, h => by
    cases y with
    | Call x ys kws p =>
      match x, ys, h with
      | .Name x _, z :: zs, h =>
        cases e : C.shf n with
        | none =>
          have h : (match C.shf n with | some sh => ckGl C x && decide (C.fnK x = some sh.k) && ckKs C sh.ks kes kws && ckA C es (z :: zs) | none => false) = true := h
          rw [e] at h
          cases h
        | some sh =>
          have h : (match C.shf n with | some sh => ckGl C x && decide (C.fnK x = some sh.k) && ckKs C sh.ks kes kws && ckA C es (z :: zs) | none => false) = true := h
          rw [e] at h
          obtain ⟨h, h4⟩ := and2 (show (ckGl C x && decide (C.fnK x = some sh.k) && ckKs C sh.ks kes kws && ckA C es (z :: zs)) = true from h)
          obtain ⟨h, h3⟩ := and2 h
          obtain ⟨h1, h2⟩ := and2 h
          have g := ckGl_of k h1
          obtain ⟨j, fa, fd, ps, Fo, hw, hr, hm, hk, hb⟩ := (k.fnk x n sh e (of_decide_eq_true h2)).ex
          have em : M.shf n = some sh := by rw [← k.hshf]; exact e
          have pl := ckA_head h4
          have f := ckKs_facts (pos := p) (env := X.env) h3
          show PE X _ (liftE c (wMkK (M.shf n) M.sem (semA M es) (semA M kes)))
          rw [em]
          exact lv_callK k.tk Fo hw hr g.1 hm hk k.K hb (sa es k _ h4) (sk kes sh.ks k kws h3) f.1 f.2.1 g.2.1 (star_of pl.1) (by rw [ckA_plain h4, f.2.2]; rfl)
    | _ => cases h
  | .srt e i x z, C, X, c, k, y, h => by
    cases y with
    | Call fn ys kws p =>
      match fn, ys, kws, h with
      | .Name f _, [y1], [⟨some kw, l, _⟩], h =>
        obtain ⟨h, h7⟩ := and2 (show (C.lam && decide (f = ("sorted" : Str)) && decide (kw = ("key" : Str)) && ckBl C f && plainE y1 && ckE C e y1 && ckSrt C.N C.sc i x z l) = true from h)
        obtain ⟨h, h6⟩ := and2 h
        obtain ⟨h, h5⟩ := and2 h
        obtain ⟨h, h4⟩ := and2 h
        obtain ⟨h, h3⟩ := and2 h
        obtain ⟨h1, h2⟩ := and2 h
        obtain ⟨ap, k0, k1, p1, p2, p3, p4, p5, p6, p7, p8, p9, scope, lpos, rfl, Ls, hN⟩ := ckSrt_of h7
        have e3 := of_decide_eq_true h3
        subst e3
        have g := ckBl_of k h4
        exact lv_srt (of_decide_eq_true h2) k.K g.1 g.2.1 k.un (se e k y1 h6) (k.lam h1) (k.sc ▸ Ls) (by rw [k.N]; exact hN) (star_of h5)
    | _ => cases h
  | .slTo a n, C, X, c, k, y, h => by
    cases y with
    | Subscript x z p =>
      match z, h with
      | .Slice none (some y) none _, h =>
        obtain ⟨h1, h2⟩ := and2 (show (ckE C a x && ckE C n y) = true from h)
        exact lv_slTo k.K (se a k x h1) (se n k y h2)
    | _ => cases h
  | .slFr a n, C, X, c, k, y, h => by
    cases y with
    | Subscript x z p =>
      match z, h with
      | .Slice (some y) none none _, h =>
        obtain ⟨h1, h2⟩ := and2 (show (ckE C a x && ckE C n y) = true from h)
        exact lv_slFr k.K (se a k x h1) (se n k y h2)
    | _ => cases h
  | .dcT own i it, C, X, c, k, y, h => by
    cases y with
    | DictComp kx vx gens scope p =>
      match kx, vx, gens, h with
      | .Name x _, .Constant (.bool true) _ _, [⟨.Name y yp, iter, [], 0⟩], h =>
        obtain ⟨h, h6⟩ := and2 (show (decide (x = y) && blkC C.N C.sc scope own && (own.map (·.2)).contains i && ckI C (.Name y yp) it iter && ckLoc { C with sc := relS scope C.sc, fnl := (fun x => scope.names.lookup x == some .cell), lam := false } i y && ckVar { C with sc := relS scope C.sc, fnl := (fun x => scope.names.lookup x == some .cell), lam := false } i x) = true from h)
        obtain ⟨h, h5⟩ := and2 h
        obtain ⟨h, h4⟩ := and2 h
        obtain ⟨h, h3⟩ := and2 h
        obtain ⟨h1, h2⟩ := and2 h
        obtain rfl := of_decide_eq_true h1
        have ok : BlkOk X.N X.env.scope scope own := by rw [k.N, k.sc]; exact blkOk_by h2
        exact lv_dct k.K k.pw.1 k.pw.2 k.un k.calm k.nd (si it k _ iter h4) ok (by simpa using h3)
          (fun s H Cc cl fp B => sg (.nm i) (k.blk s H scope cl Cc fp B) _ h5)
          (fun s H Cc cl fp B => by
            have q := ckVar_of (k.blk s H scope cl Cc fp B) h6
            exact lv_var q.1 q.2.1 q.2.2.1 q.2.2.2)
          (fun s H Cc cl fp B => lv_bl) (ckI_fold h4)
    | _ => cases h
  | .inO neg e i, C, X, c, k, y, h => by
    cases y with
    | Compare a os ys p =>
      match os, ys, h with
      | [o], [.Name x p1], h => exact (inO_ok k (fun y h => se e k y h) h).1
    | _ => cases h
  | .idx a e, C, X, c, k, y, h => by
    cases y with
    | Call x ys kw p =>
      match x, ys, kw, h with
      | .Attribute x f ap, [y], [], h =>
        obtain ⟨h, h6⟩ := and2 (show (decide (f = ("index" : Str)) && (ap.endLine == p.line) && plainE x && plainE y && ckE C a x && ckE C e y) = true from h)
        obtain ⟨h, h5⟩ := and2 h
        obtain ⟨h, h4⟩ := and2 h
        obtain ⟨h, h3⟩ := and2 h
        obtain ⟨h1, h2⟩ := and2 h
        exact lv_idx k.K (of_decide_eq_true h1) (se a k x h5) (se e k y h6) (base_of h3) h2 (star_of h4)
    | _ => cases h
  | .join a e, C, X, c, k, y, h => by
    cases y with
    | Call x ys kw p =>
      match x, ys, kw, h with
      | .Attribute x f ap, [y], [], h =>
        obtain ⟨h, h6⟩ := and2 (show (decide (f = ("join" : Str)) && (ap.endLine == p.line) && plainE x && plainE y && ckE C a x && ckE C e y) = true from h)
        obtain ⟨h, h5⟩ := and2 h
        obtain ⟨h, h4⟩ := and2 h
        obtain ⟨h, h3⟩ := and2 h
        obtain ⟨h1, h2⟩ := and2 h
        exact lv_join k.K (of_decide_eq_true h1) (se a k x h5) (se e k y h6) (base_of h3) h2 (star_of h4)
    | _ => cases h
  | .splt a e, C, X, c, k, y, h => by
    cases y with
    | Call x ys kw p =>
      match x, ys, kw, h with
      | .Attribute x f ap, [y], [], h =>
        obtain ⟨h, h6⟩ := and2 (show (decide (f = ("split" : Str)) && (ap.endLine == p.line) && plainE x && plainE y && ckE C a x && ckE C e y) = true from h)
        obtain ⟨h, h5⟩ := and2 h
        obtain ⟨h, h4⟩ := and2 h
        obtain ⟨h, h3⟩ := and2 h
        obtain ⟨h1, h2⟩ := and2 h
        exact lv_of_lf (lf_splt (of_decide_eq_true h1) (se a k x h5) (se e k y h6) (base_of h3) h2 (star_of h4))
    | _ => cases h
  | .prtn a e, C, X, c, k, y, h => by
    cases y with
    | Call x ys kw p =>
      match x, ys, kw, h with
      | .Attribute x f ap, [y], [], h =>
        obtain ⟨h, h6⟩ := and2 (show (decide (f = ("partition" : Str)) && (ap.endLine == p.line) && plainE x && plainE y && ckE C a x && ckE C e y) = true from h)
        obtain ⟨h, h5⟩ := and2 h
        obtain ⟨h, h4⟩ := and2 h
        obtain ⟨h, h3⟩ := and2 h
        obtain ⟨h1, h2⟩ := and2 h
        exact lv_prtn (of_decide_eq_true h1) (se a k x h5) (se e k y h6) (base_of h3) h2 (star_of h4)
    | _ => cases h
  | .fstr es, C, X, c, k, y, h => by
    cases y with
    | JoinedStr ys p =>
      match ys, h with
      | y1 :: y2 :: ys, h =>
        obtain ⟨ts, t1, t2⟩ := sj es k (y1 :: y2 :: ys) h
        exact lv_fstr t1 t2
    | _ => cases h
  | .prop m a, C, X, c, k, y, h => by
    cases y with
    | Attribute x f p =>
      obtain ⟨h, h3⟩ := and2 (show (decide (f = C.mid m) && ckE C a x && plainE x) = true from h)
      obtain ⟨h1, h2⟩ := and2 h
      have e := of_decide_eq_true h1
      rw [k.mid] at e
      subst e
      have pt : ∀ q w, ((M.pt q m).map M.prp) = some w → PropAt X c q (c.T.nm m) w := fun q w e => by
        cases z : M.pt q m with
        | none => rw [z] at e; cases e
        | some f => rw [z] at e; cases e; exact k.pts q m f z
      exact lv_prop pt (se a k x h2) (base_of h3)
    | _ => cases h
  | .lenD i, C, X, c, k, y, h => by
    cases y with
    | Call f ys kw p =>
      match f, ys, kw, h with
      | .Name f _, [.Name x _], [], h =>
        obtain ⟨h, h3⟩ := and2 (show (decide (f = ("len" : Str)) && ckBl C f && ckVar C i x) = true from h)
        obtain ⟨h1, h2⟩ := and2 h
        have q := ckVar_of k h3
        have g := ckBl_of k h2
        exact lv_lenD (of_decide_eq_true h1) q.1 q.2.1 q.2.2.1 q.2.2.2 g.1 g.2.1
    | _ => cases h
  | .keysD i, C, X, c, k, y, h => by
    cases y with
    | Call f ys kw p =>
      match f, ys, kw, h with
      | .Name f _, [.Name x _], [], h =>
        obtain ⟨h, h3⟩ := and2 (show (decide (f = ("list" : Str)) && ckBl C f && ckVar C i x) = true from h)
        obtain ⟨h1, h2⟩ := and2 h
        have q := ckVar_of k h3
        have g := ckBl_of k h2
        exact lv_of_lf (lf_keysD k.calm (of_decide_eq_true h1) q.1 q.2.1 q.2.2.1 q.2.2.2 g.1 g.2.1)
    | _ => cases h
  | .call0 f, C, X, c, k, y, h => by
    cases y with
    | Call x ys kw p =>
      match x, ys, kw, h with
      | .Name x _, [], [], h =>
        obtain ⟨h1, h2⟩ := and2 (show (ckGl C x && decide (C.fn x = some f)) = true from h)
        have g := ckGl_of k h1
        obtain ⟨j, fa, fd, ps, Fo, hw, hr, hm, hk, hb⟩ := (k.fns x f (of_decide_eq_true h2)).ex
        exact lv_call0 k.tk Fo hw hr g.1 hm hk hb g.2.1
    | _ => cases h
  | .dig a, C, X, c, k, y, h => by
    cases y with
    | List ys p =>
      match ys, h with
      | [y], h =>
        obtain ⟨h1, h2⟩ := and2 (show (plainE y && ckE C a y) = true from h)
        exact lv_dig (se a k y h2) (star_of h1)
    | _ => cases h
  | .slAB a i j, C, X, c, k, y, h => by
    cases y with
    | Subscript x z p =>
      match z, h with
      | .Slice (some y) (some z) none _, h =>
        obtain ⟨h, h3⟩ := and2 (show (ckE C a x && ckE C i y && ckE C j z) = true from h)
        obtain ⟨h1, h2⟩ := and2 h
        exact lv_slAB k.K (se a k x h1) (se i k y h2) (se j k z h3)
    | _ => cases h
  | .tupS a es, C, X, c, k, y, h => by
    cases y with
    | Tuple ys n p =>
      match ys, h with
      | .Starred x _ :: ys, h =>
        obtain ⟨h1, h2⟩ := and2 (show (ckE C a x && ckA C es ys) = true from h)
        exact lv_tup (la_star k.K (se a k x h1) (sa es k ys h2))
    | _ => cases h
  | .lstS a es, C, X, c, k, y, h => by
    cases y with
    | List ys p =>
      match ys, h with
      | .Starred x _ :: ys, h =>
        obtain ⟨h1, h2⟩ := and2 (show (ckE C a x && ckA C es ys) = true from h)
        exact lv_lst (la_star k.K (se a k x h1) (sa es k ys h2))
    | _ => cases h
  | .lc own g it cond elt, C, X, c, k, y, h => by
    cases y with
    | ListComp y gens scope p =>
      match gens, h with
      | [⟨tg, iter, ifs, 0⟩], h =>
        obtain ⟨h, h6⟩ := and2 (show (blkC C.N C.sc scope own && ((slG g).all fun i => (own.map (·.2)).contains i) && ckI C tg it iter && ckG { C with sc := relS scope C.sc, fnl := (fun x => scope.names.lookup x == some .cell), lam := false } g tg && ckC { C with sc := relS scope C.sc, fnl := (fun x => scope.names.lookup x == some .cell), lam := false } cond ifs && ckE { C with sc := relS scope C.sc, fnl := (fun x => scope.names.lookup x == some .cell), lam := false } elt y) = true from h)
        obtain ⟨h, h5⟩ := and2 h
        obtain ⟨h, h4⟩ := and2 h
        obtain ⟨h, h3⟩ := and2 h
        obtain ⟨h1, h2⟩ := and2 h
        have ok : BlkOk X.N X.env.scope scope own := by rw [k.N, k.sc]; exact blkOk_by h1
        obtain ⟨tt, t1, t2⟩ := sc cond k scope ifs h5
        exact lv_of_lf (lf_lc k.calm k.nd (si it k tg iter h3) ok (fun i hi => by simpa using List.all_eq_true.mp h2 i hi) t1
          (fun s H Cc cl fp B => sg g (k.blk s H scope cl Cc fp B) tg h4) t2
          (fun s H Cc cl fp B => se elt (k.blk s H scope cl Cc fp B) y h6) (ckI_fold h3))
    | _ => cases h
  | .lc2 own g0 it0 g1 it1 elt, C, X, c, k, y, h => by
    cases y with
    | ListComp y gens scope p =>
      match gens, h with
      | [⟨tg0, iter0, [], 0⟩, ⟨tg1, iter1, [], 0⟩], h =>
        obtain ⟨h, h8⟩ := and2 (show (blkC C.N C.sc scope own && ((slG g0).all fun i => (own.map (·.2)).contains i) && ((slG g1).all fun i => (own.map (·.2)).contains i) && ckI C tg0 it0 iter0 && ckG { C with sc := relS scope C.sc, fnl := (fun x => scope.names.lookup x == some .cell), lam := false } g0 tg0 && ckI { C with sc := relS scope C.sc, fnl := (fun x => scope.names.lookup x == some .cell), lam := false } tg1 it1 iter1 && ckG { C with sc := relS scope C.sc, fnl := (fun x => scope.names.lookup x == some .cell), lam := false } g1 tg1 && ckE { C with sc := relS scope C.sc, fnl := (fun x => scope.names.lookup x == some .cell), lam := false } elt y) = true from h)
        obtain ⟨h, h7⟩ := and2 h
        obtain ⟨h, h6⟩ := and2 h
        obtain ⟨h, h5⟩ := and2 h
        obtain ⟨h, h4⟩ := and2 h
        obtain ⟨h, h3⟩ := and2 h
        obtain ⟨h1, h2⟩ := and2 h
        have ok : BlkOk X.N X.env.scope scope own := by rw [k.N, k.sc]; exact blkOk_by h1
        exact lv_of_lf (lf_lc2 (sl := slG g0) (sl1 := slG g1) (vs1 := slG g1) k.calm k.nd (si it0 k tg0 iter0 h4) ok (fun i hi => by simpa using List.all_eq_true.mp h2 i hi) (fun i hi => hi) (fun i hi => by simpa using List.all_eq_true.mp h3 i hi)
          (fun s H Cc cl fp B => sg g0 (k.blk s H scope cl Cc fp B) tg0 h5) (fun s H Cc cl fp B => si it1 (k.blk s H scope cl Cc fp B) tg1 iter1 h6) (fun s H Cc cl fp B => sg g1 (k.blk s H scope cl Cc fp B) tg1 h7)
          (fun s H Cc cl fp B => se elt (k.blk s H scope cl Cc fp B) y h8)
          (ckI_fold h4) (fun _ => ckI_fold h6))
    | _ => cases h
  | .lc3 own g0 it0 g1 it1 g2 it2 elt, C, X, c, k, y, h => by
    cases y with
    | ListComp y gens scope p =>
      match gens, h with
      | [⟨tg0, iter0, [], 0⟩, ⟨tg1, iter1, [], 0⟩, ⟨tg2, iter2, [], 0⟩], h =>
        obtain ⟨h, h10⟩ := and2 (show (blkC C.N C.sc scope own && ((slG g0).all fun i => (own.map (·.2)).contains i) && ((slG g1 ++ slG g2).all fun i => (own.map (·.2)).contains i) && ckI C tg0 it0 iter0 && ckG { C with sc := relS scope C.sc, fnl := (fun x => scope.names.lookup x == some .cell), lam := false } g0 tg0 && ckI { C with sc := relS scope C.sc, fnl := (fun x => scope.names.lookup x == some .cell), lam := false } tg1 it1 iter1 && ckG { C with sc := relS scope C.sc, fnl := (fun x => scope.names.lookup x == some .cell), lam := false } g1 tg1 && ckI { C with sc := relS scope C.sc, fnl := (fun x => scope.names.lookup x == some .cell), lam := false } tg2 it2 iter2 && ckG { C with sc := relS scope C.sc, fnl := (fun x => scope.names.lookup x == some .cell), lam := false } g2 tg2 && ckE { C with sc := relS scope C.sc, fnl := (fun x => scope.names.lookup x == some .cell), lam := false } elt y) = true from h)
        obtain ⟨h, h9⟩ := and2 h
        obtain ⟨h, h8⟩ := and2 h
        obtain ⟨h, h7⟩ := and2 h
        obtain ⟨h, h6⟩ := and2 h
        obtain ⟨h, h5⟩ := and2 h
        obtain ⟨h, h4⟩ := and2 h
        obtain ⟨h, h3⟩ := and2 h
        obtain ⟨h1, h2⟩ := and2 h
        have ok : BlkOk X.N X.env.scope scope own := by rw [k.N, k.sc]; exact blkOk_by h1
        exact lv_of_lf (lf_lc3 (sl := slG g0) (sl1 := slG g1) (sl2 := slG g2) (vs1 := slG g1 ++ slG g2) (vs2 := slG g2) k.calm k.nd (si it0 k tg0 iter0 h4) ok (fun i hi => by simpa using List.all_eq_true.mp h2 i hi) (fun i hi => List.mem_append_left _ hi) (fun i hi => hi) (fun i hi => by simpa using List.all_eq_true.mp h3 i hi) (fun i hi => List.mem_append_right _ hi)
          (fun s H Cc cl fp B => sg g0 (k.blk s H scope cl Cc fp B) tg0 h5) (fun s H Cc cl fp B => si it1 (k.blk s H scope cl Cc fp B) tg1 iter1 h6) (fun s H Cc cl fp B => sg g1 (k.blk s H scope cl Cc fp B) tg1 h7)
          (fun s H Cc cl fp B => si it2 (k.blk s H scope cl Cc fp B) tg2 iter2 h8) (fun s H Cc cl fp B => sg g2 (k.blk s H scope cl Cc fp B) tg2 h9) (fun s H Cc cl fp B => se elt (k.blk s H scope cl Cc fp B) y h10)
          (ckI_fold h4) (fun _ => ckI_fold h6) (fun _ => ckI_fold h8))
    | _ => cases h
theorem sj : ∀ (es : List IE) {C : Ck} {X : Cx} {c : Ct} (_ : XOk M C X c) (ys : List Expr), ckJ C es ys = true → ∃ ts, PJ X ys ts ∧ liftJ c (semJ M es) ts
  | [], C, X, c, k, ys, h => by
    cases ys with
    | nil => exact ⟨[], .nil, lj_nil⟩
    | cons y ys => cases h
  | e :: es, C, X, c, k, ys, h => by
    cases ys with
    | nil => cases h
    | cons y ys =>
      unfold ckJ at h
      obtain ⟨a, b⟩ := and2 h
      obtain ⟨ts, t1, t2⟩ := sj es k ys b
      split at a
      · obtain ⟨a1, a2⟩ := and2 a
        have a1 := of_decide_eq_true a1
        subst a1
        exact ⟨_ :: ts, .cons (pe_fmt (se e k _ a2)) t1, lj_fmt t2⟩
      · unfold ckCs at a
        split at a
        · rw [flatEq_eq a]
          exact ⟨_ :: ts, .cons lv_str t1, lj_cst t2⟩
        · cases a
theorem sk : ∀ (kes : List IE) (ns : List Str) {C : Ck} {X : Cx} {c : Ct} (_ : XOk M C X c) (kws : List Keyword), ckKs C ns kes kws = true → PK X kws (liftA c (semA M kes))
  | [], ns, C, X, c, k, kws, h => by
    match ns, kws, h with
    | [], [], _ => exact lk_nil
  | e :: es, ns, C, X, c, k, kws, h => by
    match ns, kws, h with
    | n :: ns, ⟨some m, y, p⟩ :: kws, h =>
      obtain ⟨h, h3⟩ := and2 (show (decide (m = n) && ckE C e y && ckKs C ns es kws) = true from h)
      obtain ⟨h1, h2⟩ := and2 h
      exact lk_cons (se e k y h2) (sk es ns k kws h3)
theorem sc : ∀ (t : List IT) {C : Ck} {X : Cx} {c : Ct} (_ : XOk M C X c) (scope : Scope) (ys : List Expr), ckC { C with sc := relS scope C.sc, fnl := (fun x => scope.names.lookup x == some .cell), lam := false } t ys = true →
    ∃ tt, TestOk tt c (semC M t) ∧ ∀ (s : Shared) (H : Hp) (Cc : Addr) (cl : List (Str × Addr)) (fp : List Addr), PTs (X.blk s H scope (compEnvC scope cl Cc X.env) fp) ys tt
  | [], C, X, c, k, scope, ys, h => by
    cases ys with
    | nil => exact ⟨_, test_yes, fun _ _ _ _ _ => pts_nil⟩
    | cons => cases h
  | t :: ts, C, X, c, k, scope, ys, h => by
    match ts, ys, h with
    | [], [y], h => exact ⟨_, test_any, fun s H Cc cl fp => pts_one (any_t fun B => st t (k.blk s H scope cl Cc fp B) y h)⟩
theorem si : ∀ (it : II) {C : Ck} {X : Cx} {c : Ct} (_ : XOk M C X c) (tg y : Expr), ckI C tg it y = true → PI X tg y (liftI c (semI M it))
  | .lst e, C, X, c, k, tg, y, h => li_list k.K (se e k y (and2 (show (ckE C e y && plainE y) = true from h)).1)
  | .seq e, C, X, c, k, tg, y, h => li_seq k.K (se e k y (and2 (show (ckE C e y && plainE y) = true from h)).1)
  | .tup e, C, X, c, k, tg, y, h => li_tup k.K (se e k y (and2 (show (ckE C e y && plainE y) = true from h)).1)
  | .rg1 e, C, X, c, k, tg, y, h => by
    cases y with
    | Call f ys kw p =>
      match f, ys, kw, h with
      | .Name f _, [y], [], h =>
        obtain ⟨h, h4⟩ := and2 (show (decide (f = ("range" : Str)) && ckBl C f && ckE C e y && plainE y) = true from h)
        obtain ⟨h, h3⟩ := and2 h
        obtain ⟨h1, h2⟩ := and2 h
        have g := ckBl_of k h2
        exact li_rg1 (of_decide_eq_true h1) g.1 g.2.1 (se e k y h3) (star_of h4)
    | _ => cases h
  | .rg2 a b, C, X, c, k, tg, y, h => by
    cases y with
    | Call f ys kw p =>
      match f, ys, kw, h with
      | .Name f _, [x, y], [], h =>
        obtain ⟨h, h6⟩ := and2 (show (decide (f = ("range" : Str)) && ckBl C f && ckE C a x && plainE x && ckE C b y && plainE y) = true from h)
        obtain ⟨h, h5⟩ := and2 h
        obtain ⟨h, h4⟩ := and2 h
        obtain ⟨h, h3⟩ := and2 h
        obtain ⟨h1, h2⟩ := and2 h
        have g := ckBl_of k h2
        exact li_rg2 (of_decide_eq_true h1) g.1 g.2.1 (se a k x h3) (se b k y h5) (by rw [star_of h4, star_of h6]; rfl) (star_of h6)
    | _ => cases h
  | .rg3 a b t, C, X, c, k, tg, y, h => by
    cases y with
    | Call f ys kw p =>
      match f, ys, kw, h with
      | .Name f _, [x, y, z], [], h =>
        obtain ⟨h, h8⟩ := and2 (show (decide (f = ("range" : Str)) && ckBl C f && ckE C a x && plainE x && ckE C b y && plainE y && ckE C t z && plainE z) = true from h)
        obtain ⟨h, h7⟩ := and2 h
        obtain ⟨h, h6⟩ := and2 h
        obtain ⟨h, h5⟩ := and2 h
        obtain ⟨h, h4⟩ := and2 h
        obtain ⟨h, h3⟩ := and2 h
        obtain ⟨h1, h2⟩ := and2 h
        have g := ckBl_of k h2
        exact li_rg3 (of_decide_eq_true h1) g.1 g.2.1 (se a k x h3) (se b k y h5) (se t k z h7) (star_of h4) (star_of h6) (star_of h8)
    | _ => cases h
  | .str e, C, X, c, k, tg, y, h => by
    obtain ⟨h1, _⟩ := and2 (show (ckE C e y && plainE y) = true from h)
    exact li_str (se e k y h1)
  | .zip es, C, X, c, k, tg, y, h => by
    cases y with
    | Call f ys kw p =>
      match f, ys, kw, h with
      | .Name f _, z :: zs, [], h =>
        obtain ⟨h, h5⟩ := and2 (show (decide (f = ("zip" : Str)) && ckBl C f && decide (es.length = 2 ∨ es.length = 3 ∨ es.length = 4) && isTupE tg && ckA C es (z :: zs)) = true from h)
        obtain ⟨h, h4⟩ := and2 h
        obtain ⟨h, h3⟩ := and2 h
        obtain ⟨h1, h2⟩ := and2 h
        have g := ckBl_of k h2
        have pl := ckA_head h5
        cases tg with
        | Tuple elts kk tpos => exact li_z (of_decide_eq_true h3) (of_decide_eq_true h1) k.K g.1 g.2.1 (sa es k _ h5) (star_of pl.1) (pl.2 _ _)
        | _ => cases h4
    | _ => cases h
  | .enm e, C, X, c, k, tg, y, h => by
    cases y with
    | Call f ys kw p =>
      match f, ys, kw, h with
      | .Name f _, [z], [], h =>
        obtain ⟨h, h5⟩ := and2 (show (decide (f = ("enumerate" : Str)) && ckBl C f && isTupE tg && ckE C e z && plainE z) = true from h)
        obtain ⟨h, h4⟩ := and2 h
        obtain ⟨h, h3⟩ := and2 h
        obtain ⟨h1, h2⟩ := and2 h
        have g := ckBl_of k h2
        cases tg with
        | Tuple elts kk tpos => exact li_enm k.K (of_decide_eq_true h1) g.1 g.2.1 (se e k z h4) (star_of h5)
        | _ => cases h3
    | _ => cases h
  | .enS e, C, X, c, k, tg, y, h => by
    cases y with
    | Call f ys kw p =>
      match f, ys, kw, h with
      | .Name f _, [z], [], h =>
        obtain ⟨h, h5⟩ := and2 (show (decide (f = ("enumerate" : Str)) && ckBl C f && isTupE tg && ckE C e z && plainE z) = true from h)
        obtain ⟨h, h4⟩ := and2 h
        obtain ⟨h, h3⟩ := and2 h
        obtain ⟨h1, h2⟩ := and2 h
        have g := ckBl_of k h2
        cases tg with
        | Tuple elts kk tpos => exact li_enS (of_decide_eq_true h1) g.1 g.2.1 (se e k z h4) (star_of h5)
        | _ => cases h3
    | _ => cases h
  | .rev1 e, C, X, c, k, tg, y, h => by
    cases y with
    | Call f ys kw p =>
      match f, ys, kw, h with
      | .Name f _, [.Call (.Name f2 _) [y] [] _], [], h =>
        obtain ⟨h, h6⟩ := and2 (show (decide (f2 = ("range" : Str)) && ckBl C f2 && decide (f = ("reversed" : Str)) && ckBl C f && ckE C e y && plainE y) = true from h)
        obtain ⟨h, h5⟩ := and2 h
        obtain ⟨h, h4⟩ := and2 h
        obtain ⟨h, h3⟩ := and2 h
        obtain ⟨h1, h2⟩ := and2 h
        have g := ckBl_of k h2
        have g2 := ckBl_of k h4
        exact li_rev1 (of_decide_eq_true h1) (of_decide_eq_true h3) g.1 g.2.1 g2.1 g2.2.1 (se e k y h5) (star_of h6)
    | _ => cases h
theorem sl : ∀ (es : List IE) {C : Ck} {X : Cx} {c : Ct} (_ : XOk M C X c) (e : IE) (y : Expr), e ∈ es → ckE C e y = true → PE X y (liftE c (semE M e))
  | [], _, _, _, _, _, _, h, _ => nomatch h
  | a :: es, C, X, c, k, e, y, h, q => by
    rcases List.mem_cons.mp h with z | z
    · have := se a k y (by rw [← z]; exact q)
      rw [z]
      exact this
    · exact sl es k e y z q
theorem sa : ∀ (es : List IE) {C : Ck} {X : Cx} {c : Ct} (_ : XOk M C X c) (ys : List Expr), ckA C es ys = true → PA X ys (liftA c (semA M es))
  | [], C, X, c, k, ys, h => by
    cases ys with
    | nil => exact la_nil
    | cons => cases h
  | e :: es, C, X, c, k, ys, h => by
    cases ys with
    | nil => cases h
    | cons y ys =>
      obtain ⟨h, h3⟩ := and2 (show (plainE y && ckE C e y && ckA C es ys) = true from h)
      obtain ⟨h1, h2⟩ := and2 h
      exact la_cons (se e k y h2) (sa es k ys h3) (star_of h1)
theorem st : ∀ (t : IT) {C : Ck} {X : Cx} {c : Ct} (_ : XOk M C X c) (y : Expr), ckT C t y = true → PT X y (liftT c (semT M t))
  | .val e, C, X, c, k, y, h => by
    obtain ⟨h1, h2⟩ := and2 (show (ckE C e y && notTest y) = true from h)
    exact lt_val k.K (se e k y h1) (isTrue_of h2)
  | .cmp op a b, C, X, c, k, y, h => by
    cases y with
    | Compare x os ys p =>
      match os, ys, h with
      | [o], [z], h =>
        obtain ⟨h, h5⟩ := and2 (show (decide (op = o) && (!behindInMarks o z) && ckE C a x && ckE C b z) = true from h)
        obtain ⟨h, h4⟩ := and2 h
        obtain ⟨h1, h2⟩ := and2 h
        obtain rfl := of_decide_eq_true h1
        obtain ⟨r, ho, h0⟩ := cmp_ok k op
        exact lt_cmp ho h0 (se a k x h4) (se b k z h5) (by simpa using h2)
    | _ => cases h
  | .chain a ops es, C, X, c, k, y, h => by
    cases y with
    | Compare x os ys p =>
      match os, h with
      | o :: o' :: os, h =>
        obtain ⟨h, h5⟩ := and2 (show (decide (ops = o :: o' :: os) && (ops.all fun q => !decide (q = .In) && !decide (q = .NotIn)) && decide (ops.length = es.length) && ckE C a x && ckA C es ys) = true from h)
        obtain ⟨h, h4⟩ := and2 h
        obtain ⟨h, h3⟩ := and2 h
        obtain ⟨h1, h2⟩ := and2 h
        obtain rfl := of_decide_eq_true h1
        have mk := marks_of h2
        have lk := lks_of k (fun e y he hy => sl es k e y he hy) (of_decide_eq_true h3) h5
        obtain ⟨z, z', zs, rfl⟩ := two_of (of_decide_eq_true h3) h5
        exact lt_chain (se a k x h4) lk (nomarks mk)
    | _ => cases h
  | .and a b, C, X, c, k, y, h => by
    cases y with
    | BoolOp op ys p =>
      match op, ys, h with
      | .And, x :: z :: r, h =>
        obtain ⟨h1, h2⟩ := and2 (show (ckT C a x && (if r.isEmpty then ckT C b z else ckT C b (.BoolOp .And (z :: r) p))) = true from h)
        refine PW.pt (lw_and (st a k x h1) ?_)
        cases r with
        | nil => exact lw_one (st b k z h2)
        | cons z2 r => exact sw b k _ h2 (isBool_of h2)
    | _ => cases h
  | .or a b, C, X, c, k, y, h => by
    cases y with
    | BoolOp op ys p =>
      match op, ys, h with
      | .Or, x :: z :: r, h =>
        obtain ⟨h1, h2⟩ := and2 (show (ckT C a x && (if r.isEmpty then ckT C b z else ckT C b (.BoolOp .Or (z :: r) p))) = true from h)
        refine PW.pt (lw_or (st a k x h1) ?_)
        cases r with
        | nil => exact lw_one (st b k z h2)
        | cons z2 r => exact sw b k _ h2 (isBool_of h2)
    | _ => cases h
  | .not a, C, X, c, k, y, h => by
    cases y with
    | UnaryOp op x p =>
      cases op with
      | Not => exact lt_not (st a k x h)
      | _ => cases h
    | _ => cases h
  | .inO neg e i, C, X, c, k, y, h => by
    cases y with
    | Compare a os ys p =>
      match os, ys, h with
      | [o], [.Name x p1], h => exact (inO_ok k (fun y h => se e k y h) h).2
    | _ => cases h
theorem sw : ∀ (t : IT) {C : Ck} {X : Cx} {c : Ct} (_ : XOk M C X c) (y : Expr), ckT C t y = true → isBoolT t = true → PW X y (liftT c (semT M t))
  | .and a b, C, X, c, k, y, h, _ => by
    cases y with
    | BoolOp op ys p =>
      match op, ys, h with
      | .And, x :: z :: r, h =>
        obtain ⟨h1, h2⟩ := and2 (show (ckT C a x && (if r.isEmpty then ckT C b z else ckT C b (.BoolOp .And (z :: r) p))) = true from h)
        refine lw_and (st a k x h1) ?_
        cases r with
        | nil => exact lw_one (st b k z h2)
        | cons z2 r => exact sw b k _ h2 (isBool_of h2)
    | _ => cases h
  | .or a b, C, X, c, k, y, h, _ => by
    cases y with
    | BoolOp op ys p =>
      match op, ys, h with
      | .Or, x :: z :: r, h =>
        obtain ⟨h1, h2⟩ := and2 (show (ckT C a x && (if r.isEmpty then ckT C b z else ckT C b (.BoolOp .Or (z :: r) p))) = true from h)
        refine lw_or (st a k x h1) ?_
        cases r with
        | nil => exact lw_one (st b k z h2)
        | cons z2 r => exact sw b k _ h2 (isBool_of h2)
    | _ => cases h
  | .val _, _, _, _, _, _, _, h => by cases h
  | .cmp _ _ _, _, _, _, _, _, _, h => by cases h
  | .chain _ _ _, _, _, _, _, _, _, h => by cases h
  | .not _, _, _, _, _, _, _, h => by cases h
  | .inO _ _ _, _, _, _, _, _, _, h => by cases h
end
end
end Tr

namespace Tr
open PySem PySem.Spec PyProof.Rows L2

/-! ### a, b = x, y -/
def parB (C : Ck) (i j : Nat) (x : Str) (px : Pos) (y : Str) (py : Pos) (a b : Expr) : Bool :=
  decide (C.N[i]? = some x) && decide (C.N[j]? = some y) && decide (i ≠ j) && decide (x ≠ y) && decide (C.sc.names.lookup x = some .local) && decide (C.sc.names.lookup y = some .local) && decide (C.sc.kind = .function) && (py.line == px.line) && plainE a && plainE b && !([a, b].all (foldedForSure 8)) && !([a, b].all (constantsAlone 8))
theorem not_star {a : Expr} (h : plainE a = true) : (match a with | .Starred .. => true | _ => false) = false := by
  cases a <;> first | rfl | (cases h)
theorem par_hw {x y : Str} {px py pt pt2 : Pos} {kt k2} {a b : Expr} {env : Env} (hx : env.scope.names.lookup x = some .local) (hy : env.scope.names.lookup y = some .local) (hk : env.scope.kind = .function) (hl : (py.line == px.line) = true) (hxy : x ≠ y) (ha : plainE a = true) (hb : plainE b = true) (hf : ([a, b].all (foldedForSure 8)) = false) (hc : ([a, b].all (constantsAlone 8)) = false) :
    swappedStores [.Tuple [.Name x px, .Name y py] kt pt] (.Tuple [a, b] k2 pt2) env = pure (some [x, y]) := by
  have kx : env.kindOf x = some .local := hx
  have ky : env.kindOf y = some .local := hy
  have hbk : env.blockKind = .function := by unfold Env.blockKind; rw [hk]; rfl
  have hd : ([x, y] : List Str).eraseDups.length = 2 := by
    have : (y == x) = false := by rw [beq_eq_false_iff_ne]; exact fun z => hxy z.symm
    simp [List.eraseDups_cons, this]
  unfold swappedStores
  simp only [hbk, List.any_cons, List.any_nil, not_star ha, not_star hb, Bool.or_self, hf, hc, List.length_cons, List.length_nil, List.head?_cons, Option.map_some, Option.getD_some, List.filterMap_cons, List.filterMap_nil, kx, ky, hl, Expr.pos, hd, beq_self_eq_true, Bool.and_self, if_true]
  cases a <;> first
    | (cases ha; done)
    | (cases b <;> first | rfl | (cases hb; done))
theorem ls_par {c : Ct} {X : Cx} {i j : Nat} {x y : Str} {a b : Expr} {wa : WA} {px py pt pt2 pos : Pos} {kt k2} (hc : X.calm = true) (hN : X.N.Nodup) (hi : X.N[i]? = some x) (hj : X.N[j]? = some y) (hij : i ≠ j) (hx : X.env.scope.names.lookup x = some .local) (hy : X.env.scope.names.lookup y = some .local) (ha : PA X [a, b] (liftA c wa))
    (hw : swappedStores [.Tuple [.Name x px, .Name y py] kt pt] (.Tuple [a, b] k2 pt2) X.env = pure (some [x, y])) : PS X (.Assign [.Tuple [.Name x px, .Name y py] kt pt] (.Tuple [a, b] k2 pt2) pos) (liftS c (sPar i j wa)) := by
  refine ps_weak (ps_par hc hN hi hj hij hx hy ha hw rfl) fun D0 σ H ⟨F, ρ, A, S, w, q⟩ => ⟨F, ρ, _, _, S, w, fun ds vs F1 H1 w1 S1 e1 r1 => ?_, q.qX σ ρ⟩
  match ds, w1, r1 with
  | [d, e], w1, r1 =>
    obtain ⟨v, t, rfl, h1, r1⟩ := r1
    obtain ⟨u, t, rfl, h2, r1⟩ := r1
    cases r1
    exact ⟨v, u, rfl, q.nx _ _ F1 H1 w1 ((S1.put i h1).put j h2) e1⟩
end Tr

set_option maxHeartbeats 4000000
namespace Tr
open PySem PySem.Spec PyProof.Rows L2

/-! ### the check of suites -/
mutual
def ckX (C : Ck) (nm : Str) : IX → Expr → Bool
  | .fld n, .Attribute (.Name y _) f _ => decide (y = nm) && decide (f = C.mid n)
  | .isC k, .Call (.Name f _) [.Name y _, .Name z _] [] _ => decide (f = ("isinstance" : Str)) && ckBl C f && decide (y = nm) && ckGl C z && decide (C.cl z = some k)
  | .isV, .Call (.Name f _) [.Name y _, .Name z _] [] _ => decide (f = ("isinstance" : Str)) && ckBl C f && decide (y = nm) && ckBl C z && decide (z = ("ValueError" : Str))
  | .cst d, .Constant (.int z) _ _ => flatEq d (.int z)
  | .cst d, .Constant (.bool z) _ _ => flatEq d (.bl z)
  | .cst d, .Constant (.str z) _ _ => flatEq d (.str z)
  | .cst d, .Constant .none _ _ => flatEq d .non
  | .and a b, .BoolOp .And (x :: y :: r) p => ckX C nm a x && (if r.isEmpty then ckX C nm b y else ckX C nm b (.BoolOp .And (y :: r) p))
  | .or a b, .BoolOp .Or (x :: y :: r) p => ckX C nm a x && (if r.isEmpty then ckX C nm b y else ckX C nm b (.BoolOp .Or (y :: r) p))
  | .not a, .UnaryOp .Not x _ => ckX C nm a x
  | .eq a b, .Compare x [.Eq] [y] _ => ckX C nm a x && ckX C nm b y
  | .ne a b, .Compare x [.NotEq] [y] _ => ckX C nm a x && ckX C nm b y
  | _, _ => false
end
def retOf : List Stmt → Option Expr
  | [.Return (some y) _] => some y
  | _ => none
theorem retOf_of {b : List Stmt} {y : Expr} (h : retOf b = some y) : ∃ p, b = [.Return (some y) p] := by
  unfold retOf at h
  split at h
  · cases h; exact ⟨_, rfl⟩
  · cases h
def isEqX : IX → Bool
  | .eq _ _ => true | .ne _ _ => true | _ => false
def ckXS (C : Ck) (nm : Str) : List IXS → List Stmt → Bool
  | [], [] => true
  | .ret e :: r, .Return (some y) _ :: ys => ckX C nm e y && ckXS C nm r ys
  | .ifRet t e :: r, .If q b [] _ :: ys => (match retOf b with | some y => isEqX t && ckX C nm t q && ckX C nm e y && ckXS C nm r ys | none => false)
  | _, _ => false

section
variable {M : Sm} {C : Ck} {X : Cx} {c : Ct} {x : Exc} {a : Addr} {oe : Obj} {cls : Value} {dx : Option Addr} {pn : List (Addr × Obj)} {i : Nat} {nm : Str}
theorem one_x {op : BoolOp} {b : Expr} {p : Pos} {t : TE} {X : Cx} (h : PE X b t) : PE X (.BoolOp op [b] p) t := pe_one h
theorem flat_toV {d d' : D} (h : flatEq d d' = true) : toV d = toV d' := by
  rw [flatEq_eq h]
theorem cst_x {P : L2.St → Hp → Prop} {e : Expr} {d d' : D} {v : V} {X : Cx} {s : XSig} (h : flatEq d d' = true) (hv : toV d' = some v) (hp : PE X e (tC v)) : PE X e (tX s x P (.cst d)) := by
  refine pe_weak hp fun σ H Q ⟨_, d2, v2, h1, h2, q⟩ => ?_
  unfold valX at h1
  split at h1
  · cases h1
    rw [flat_toV h, hv] at h2
    cases h2
    exact q
  · cases h1
theorem sx (k : XOk M C X c) (hN : X.N[i]? = some nm) (hv : Vis X.env.scope nm) (hd : (nm == ("__debug__" : Str)) = false) (hcd : (nm == ("__classdict__" : Str)) = false) (hz : Zc cls dx oe) (hf : ∃ vs, oe.data = .fields vs) :
    ∀ (e : IX) (y : Expr), ckX C nm e y = true → PE (X.suite a ((a, oe) :: pn)) y (tX M.xs x (XAt c a i x cls dx) e)
  | .fld n, y, h => by
    have ok := k.xok
    cases y with
    | Attribute y f p =>
      cases y with
      | Name y p1 =>
        obtain ⟨h1, h2⟩ := and2 (show (decide (y = nm) && decide (f = C.mid n)) = true from h)
        obtain rfl := of_decide_eq_true h1
        have e := of_decide_eq_true h2
        rw [k.mid] at e
        subst e
        exact lx_fld k.K k.kok.inj ok hN hv hd hcd hz hf rfl
      | _ => cases h
    | _ => cases h
  | .isC kk, y, h => by
    have ok := k.xok
    cases y with
    | Call f ys kw p =>
      match f, ys, kw, h with
      | .Name f p1, [.Name y p3, .Name z p2], [], h =>
        obtain ⟨h, h5⟩ := and2 (show (decide (f = ("isinstance" : Str)) && ckBl C f && decide (y = nm) && ckGl C z && decide (C.cl z = some kk)) = true from h)
        obtain ⟨h, h4⟩ := and2 h
        obtain ⟨h, h3⟩ := and2 h
        obtain ⟨h1, h2⟩ := and2 h
        obtain rfl := of_decide_eq_true h3
        have g := ckBl_of k h2
        have gz := ckGl_of k h4
        have hm := k.cls z kk (of_decide_eq_true h5)
        refine lx_is k.K ok hN hv hd hcd hz hf (of_decide_eq_true h1) g.1 g.2.1 (cv := .ref (c.T.cad kk)) (pe_glob (X := X.suite a ((a, oe) :: pn)) gz.1 hm rfl gz.2.1) ⟨.ref (c.T.cad kk), fun w r => r⟩ fun d hd => ?_
        unfold valX at hd
        split at hd
        · rename_i hh
          obtain ⟨h1, h2⟩ := and2 hh
          obtain ⟨q0, m0, e0⟩ := XSig.of_has h1
          obtain ⟨q1, m1, e1⟩ := XSig.of_has h2
          cases hd
          refine ⟨q0, m0, e0, _, rfl, fun u hu => ?_⟩
          have := hu (.ref (c.T.cad kk)) rfl
          subst this
          rw [← e1, ← e0]
          exact ok.kit q0 m0 q1 m1
        · cases hd
    | _ => cases h
  | .isV, y, h => by
    have ok := k.xok
    cases y with
    | Call f ys kw p =>
      match f, ys, kw, h with
      | .Name f p1, [.Name y p3, .Name z p2], [], h =>
        obtain ⟨h, h5⟩ := and2 (show (decide (f = ("isinstance" : Str)) && ckBl C f && decide (y = nm) && ckBl C z && decide (z = ("ValueError" : Str))) = true from h)
        obtain ⟨h, h4⟩ := and2 h
        obtain ⟨h, h3⟩ := and2 h
        obtain ⟨h1, h2⟩ := and2 h
        obtain rfl := of_decide_eq_true h3
        have g := ckBl_of k h2
        have gz := ckBl_of k h4
        have e5 := of_decide_eq_true h5
        refine lx_is k.K ok hN hv hd hcd hz hf (of_decide_eq_true h1) g.1 g.2.1 (cv := .ty "ValueError") (pe_bltn (X := X.suite a ((a, oe) :: pn)) gz.1 gz.2.1 (by subst e5; exact PyProof.Rows.Boot.«ValueError») rfl gz.2.2.2 gz.2.2.1) ⟨.type "ValueError", fun w r => r⟩ fun d hd => ?_
        unfold valX at hd
        split at hd
        · rename_i hh
          obtain ⟨q0, m0, e0⟩ := XSig.of_has hh
          cases hd
          refine ⟨q0, m0, e0, _, rfl, fun u hu => ?_⟩
          have := hu (.type "ValueError") rfl
          subst this
          exact ok.kitV q0 m0
        · cases hd
    | _ => cases h
  | .cst d, y, h => by
    cases y with
    | Constant z n p =>
      cases z with
      | int z => exact cst_x h rfl pe_int
      | bool z => exact cst_x h rfl pe_bl
      | str z => exact cst_x h rfl pe_str
      | none => exact cst_x h rfl pe_non
      | _ => cases h
    | _ => cases h
  | .and ea eb, y, h => by
    cases y with
    | BoolOp op ys p =>
      match op, ys, h with
      | .And, x1 :: z :: r, h =>
        obtain ⟨h1, h2⟩ := and2 (show (ckX C nm ea x1 && (if r.isEmpty then ckX C nm eb z else ckX C nm eb (.BoolOp .And (z :: r) p))) = true from h)
        refine lx_and (sx k hN hv hd hcd hz hf ea x1 h1) ?_
        cases r with
        | nil => exact one_x (sx k hN hv hd hcd hz hf eb z h2)
        | cons => exact sx k hN hv hd hcd hz hf eb _ h2
    | _ => cases h
  | .or ea eb, y, h => by
    cases y with
    | BoolOp op ys p =>
      match op, ys, h with
      | .Or, x1 :: z :: r, h =>
        obtain ⟨h1, h2⟩ := and2 (show (ckX C nm ea x1 && (if r.isEmpty then ckX C nm eb z else ckX C nm eb (.BoolOp .Or (z :: r) p))) = true from h)
        refine lx_or (sx k hN hv hd hcd hz hf ea x1 h1) ?_
        cases r with
        | nil => exact one_x (sx k hN hv hd hcd hz hf eb z h2)
        | cons => exact sx k hN hv hd hcd hz hf eb _ h2
    | _ => cases h
  | .not ea, y, h => by
    cases y with
    | UnaryOp op x1 p =>
      cases op with
      | Not => exact lx_not (sx k hN hv hd hcd hz hf ea x1 h)
      | _ => cases h
    | _ => cases h
  | .eq ea eb, y, h => by
    cases y with
    | Compare x1 os ys p =>
      match os, ys, h with
      | [.Eq], [z], h =>
        obtain ⟨h1, h2⟩ := and2 (show (ckX C nm ea x1 && ckX C nm eb z) = true from h)
        exact lx_eq (X := X.suite a ((a, oe) :: pn)) k.un (sx k hN hv hd hcd hz hf ea x1 h1) (sx k hN hv hd hcd hz hf eb z h2)
    | _ => cases h
  | .ne ea eb, y, h => by
    cases y with
    | Compare x1 os ys p =>
      match os, ys, h with
      | [.NotEq], [z], h =>
        obtain ⟨h1, h2⟩ := and2 (show (ckX C nm ea x1 && ckX C nm eb z) = true from h)
        exact lx_ne (X := X.suite a ((a, oe) :: pn)) k.un (sx k hN hv hd hcd hz hf ea x1 h1) (sx k hN hv hd hcd hz hf eb z h2)
    | _ => cases h
theorem pss_weak' {st : List Stmt} {t t' : TS} {X : Cx} (h : PSs X st t) (hw : ∀ D σ H, t' D σ H → t D σ H) : PSs X st t' := pss_weak h hw
/-- a test of the suite -/
def bX (s : XSig) (x : Exc) (P : L2.St → Hp → Prop) (e : IX) : TT := fun σ H Q => P σ H ∧ ∃ b, valX s x e = some (.bl b) ∧ Q b H
theorem bx_eq {X : Cx} {P : L2.St → Hp → Prop} {a b : Expr} {pos : Pos} {s : XSig} {x : Exc} {ea eb : IX} (hu : X.A.units + 64 < cLine) (ha : PE X a (tX s x P ea)) (hb : PE X b (tX s x P eb)) : PT X (.Compare a [.Eq] [b] pos) (bX s x P (.eq ea eb)) := by
  refine pt_weak (pt_cmpR (op_eqA hu) ha hb (nobehind b (by decide) (by decide))) fun σ H Q ⟨hp, z, h1, q⟩ => ?_
  unfold valX at h1
  split at h1
  · rename_i y z e1 e2
    cases h1
    refine ⟨hp, _, _, e1, rfl, hp, _, _, e2, rfl, .inl ⟨rfl, _, rfl, ?_⟩⟩
    rw [dec_str]
    exact q
  · cases h1
theorem bx_ne {X : Cx} {P : L2.St → Hp → Prop} {a b : Expr} {pos : Pos} {s : XSig} {x : Exc} {ea eb : IX} (hu : X.A.units + 64 < cLine) (ha : PE X a (tX s x P ea)) (hb : PE X b (tX s x P eb)) : PT X (.Compare a [.NotEq] [b] pos) (bX s x P (.ne ea eb)) := by
  refine pt_weak (pt_cmpR (op_neA hu) ha hb (nobehind b (by decide) (by decide))) fun σ H Q ⟨hp, z, h1, q⟩ => ?_
  unfold valX at h1
  split at h1
  · rename_i y z e1 e2
    cases h1
    refine ⟨hp, _, _, e1, rfl, hp, _, _, e2, rfl, .inl ⟨rfl, _, rfl, ?_⟩⟩
    rw [dec_str]
    exact q
  · cases h1
/-- what a suite does -/
def tXS (s : XSig) (x : Exc) (P : L2.St → Hp → Prop) (ss : List IXS) : TS := fun D0 σ H => P σ H ∧ match runX s x ss with | some none => D0.nx σ H | some (some d) => ∃ v, toV d = some v ∧ D0.rt v H | none => False
theorem sxs_if {X : Cx} {P : L2.St → Hp → Prop} {q y : Expr} {p1 p2 : Pos} {s : XSig} {x : Exc} {t e : IX} {r : List IXS} {ys : List Stmt} (ht : PT X q (bX s x P t)) (he : PE X y (tX s x P e)) (hr : PSs X ys (tXS s x P r)) :
    PSs X (.If q [.Return (some y) p1] [] p2 :: ys) (tXS s x P (.ifRet t e :: r)) := by
  refine pss_weak (pss_cons (ps_if ht (pss_cons (ps_ret he) pss_never) pss_nil) hr) fun D0 σ H ⟨hp, w⟩ => ?_
  unfold runX at w
  split at w
  · rename_i e1
    split at e1
    · rename_i e2
      cases z : valX s x e with
      | none => rw [z] at e1; cases e1
      | some d => rw [z] at e1; cases e1
    · rename_i e2
      refine ⟨hp, false, e2, ?_⟩
      refine ⟨hp, ?_⟩
      rw [e1]
      exact w
    · cases e1
  · rename_i d e1
    split at e1
    · rename_i e2
      obtain ⟨v, hv, w⟩ := w
      cases z : valX s x e with
      | none => rw [z] at e1; cases e1
      | some d' =>
        rw [z] at e1
        cases e1
        exact ⟨hp, true, e2, hp, _, v, z, hv, w⟩
    · rename_i e2
      refine ⟨hp, false, e2, ?_⟩
      refine ⟨hp, ?_⟩
      rw [e1]
      exact w
    · cases e1
  · exact w.elim
theorem bx (k : XOk M C X c) (hN : X.N[i]? = some nm) (hv : Vis X.env.scope nm) (hd : (nm == ("__debug__" : Str)) = false) (hcd : (nm == ("__classdict__" : Str)) = false) (hz : Zc cls dx oe) (hf : ∃ vs, oe.data = .fields vs) {t : IX} {q : Expr} (ht : isEqX t = true) (h : ckX C nm t q = true) :
    PT (X.suite a ((a, oe) :: pn)) q (bX M.xs x (XAt c a i x cls dx) t) := by
  cases t with
  | eq ea eb =>
    cases q with
    | Compare x1 os ys p =>
      match os, ys, h with
      | [.Eq], [z], h =>
        obtain ⟨h1, h2⟩ := and2 (show (ckX C nm ea x1 && ckX C nm eb z) = true from h)
        exact bx_eq (X := X.suite a ((a, oe) :: pn)) k.un (sx k hN hv hd hcd hz hf ea x1 h1) (sx k hN hv hd hcd hz hf eb z h2)
    | _ => cases h
  | ne ea eb =>
    cases q with
    | Compare x1 os ys p =>
      match os, ys, h with
      | [.NotEq], [z], h =>
        obtain ⟨h1, h2⟩ := and2 (show (ckX C nm ea x1 && ckX C nm eb z) = true from h)
        exact bx_ne (X := X.suite a ((a, oe) :: pn)) k.un (sx k hN hv hd hcd hz hf ea x1 h1) (sx k hN hv hd hcd hz hf eb z h2)
    | _ => cases h
  | _ => cases ht
theorem sxs_ret {X : Cx} {P : L2.St → Hp → Prop} {y : Expr} {p1 : Pos} {s : XSig} {x : Exc} {e : IX} {r : List IXS} {ys : List Stmt} (he : PE X y (tX s x P e)) :
    PSs X (.Return (some y) p1 :: ys) (tXS s x P (.ret e :: r)) := by
  refine pss_weak (pss_cons (ps_ret he) pss_never) fun D0 σ H ⟨hp, w⟩ => ?_
  unfold runX at w
  cases z : valX s x e with
  | none => rw [z] at w; exact w.elim
  | some d =>
    rw [z] at w
    obtain ⟨v, hv, w⟩ := w
    exact ⟨hp, d, v, z, hv, w⟩
theorem sxs (k : XOk M C X c) (hN : X.N[i]? = some nm) (hv : Vis X.env.scope nm) (hd : (nm == ("__debug__" : Str)) = false) (hcd : (nm == ("__classdict__" : Str)) = false) (hz : Zc cls dx oe) (hf : ∃ vs, oe.data = .fields vs) :
    ∀ (ss : List IXS) (ys : List Stmt), ckXS C nm ss ys = true → PSs (X.suite a ((a, oe) :: pn)) ys (tXS M.xs x (XAt c a i x cls dx) ss)
  | [], ys, h => by
    cases ys with
    | nil => exact pss_weak pss_nil fun D0 σ H ⟨hp, w⟩ => w
    | cons => cases h
  | .ret e :: r, ys, h => by
    cases ys with
    | nil => cases h
    | cons y ys =>
      cases y with
      | Return o p =>
        cases o with
        | none => cases h
        | some y =>
          obtain ⟨h1, h2⟩ := and2 (show (ckX C nm e y && ckXS C nm r ys) = true from h)
          exact sxs_ret (sx (x := x) k hN hv hd hcd hz hf e y h1)
      | _ => cases h
  | .ifRet t e :: r, ys, h => by
    cases ys with
    | nil => cases h
    | cons y ys =>
      cases y with
      | If q b ob p =>
        cases ob with
        | cons => cases h
        | nil =>
          have h : (match retOf b with | some y => isEqX t && ckX C nm t q && ckX C nm e y && ckXS C nm r ys | none => false) = true := h
          cases er : retOf b with
          | none => rw [er] at h; cases h
          | some y =>
            rw [er] at h
            obtain ⟨p1, rfl⟩ := retOf_of er
            obtain ⟨h, h4⟩ := and2 h
            obtain ⟨h, h3⟩ := and2 h
            obtain ⟨h1, h2⟩ := and2 h
            exact sxs_if (bx k hN hv hd hcd hz hf h1 h2) (sx k hN hv hd hcd hz hf e y h3) (sxs k hN hv hd hcd hz hf r ys h4)
      | _ => cases h
theorem pss_ex {α : Type} {X : Cx} {ys : List Stmt} {t : α → TS} (h : ∀ z, PSs X ys (t z)) : PSs X ys (fun D0 σ H => ∃ z, t z D0 σ H) := ⟨fun pins s σ H D0 I ⟨z, q⟩ => (h z).run pins s σ H D0 I q⟩
/-- a new thing that is no one's -/
theorem Stt.extra {F H : Hp} {σ : L2.St} {ρ : List Slot} (S : c.S F H σ ρ) {d : Addr} {o : HO} (hd : H d = none) : c.S F (upd H d o) σ ρ := by
  have sH : Same H (upd H d o) := fun a x e => by rw [upd_ne (ne_of_none e hd)]; exact e
  exact S.called ⟨Keep.of sH, Same.refl F, S.gr.sub.trans sH, fun a o e => .inl e, S.gr.cel.up sH⟩
theorem fmt_v {K : PySem.W.Frag} {T : Tab} {F : Hp} {d : D} {v : V} (r : R K T F d v) (h : fmtD d) : FmtV v := by
  cases d with
  | str y => cases r; exact h
  | int z => cases r; exact h
  | _ => exact h.elim
theorem ls_raise {x : Str} {kk f : Nat} {e : Expr} {w : WE} {p pos pos2 : Pos} (hc : X.calm = true) (hK : X.K = c.K) (tk : Takes X c.W) (xa : XrAt X c x kk f) (hg : Gl X x) (hdb : (x == ("__debug__" : Str)) = false)
    (he : PE X e (liftE c w)) (hs : starEach (e :: []) X.env = (false, eval e X.env) :: starEach [] X.env) : PS X (.Raise (some (.Call (.Name x p) [e] [] pos)) none pos2) (liftS c (sRaise kk f w)) := by
  obtain ⟨fI, a, j, T, hr, hj, hm⟩ := xa.ex
  refine ps_weak (ps_raise hc tk (pmk_ownx T hr hj (la_cons he la_nil hs) hg hm hdb hs)) fun D0 σ H ⟨F, ρ, A, S, w, q⟩ => ?_
  refine ⟨F, ρ, (fun ds => match ds with | [d] => fmtD d ∧ A.xe ⟨kk, [f], [d]⟩ ρ | _ => False), _, S, w, fun ds vs F1 H1 w1 S1 e1 r1 => ?_, q.qX σ ρ⟩
  match ds, r1, w1 with
  | [d], r1, w1 =>
    obtain ⟨v, t, rfl, r2, rfl⟩ := r1
    refine ⟨v, rfl, fmt_v r2 w1.1, fun dd hd => ?_⟩
    exact q.xe _ ρ _ _ σ F1 _ w1.2 (S1.extra hd) e1 ⟨rfl, .inr ⟨dd, [v], rfl, upd_same, rfl, Rs.one r2⟩⟩
theorem Stt.caught {F H : Hp} {σ : L2.St} {ρ : List Slot} (S : c.S F H σ ρ) (i : Nat) : c.S F H (σ.set i none) (ρ.set i .emp) := S.set_emp i
theorem valX_flat {s : XSig} {x : Exc} {e : IX} {d : D} (h : valX s x e = some d) : (toV d).isSome = true := by
  cases e with
  | fld n =>
    unfold valX at h
    split at h
    · rcases (flatO_of h).2 with ⟨y, rfl⟩ | ⟨z, rfl⟩ <;> rfl
    · cases h
  | cst d' =>
    unfold valX at h
    split at h
    · rename_i q; cases h; exact q
    · cases h
  | isC k => unfold valX at h; split at h <;> cases h; rfl
  | isV => unfold valX at h; split at h <;> cases h; rfl
  | and a b =>
    unfold valX at h
    split at h
    · split at h <;> cases h; rfl
    · cases h; rfl
    · cases h
  | or a b =>
    unfold valX at h
    split at h
    · split at h <;> cases h; rfl
    · cases h; rfl
    · cases h
  | not a => unfold valX at h; split at h <;> cases h; rfl
  | eq a b => unfold valX at h; split at h <;> cases h; rfl
  | ne a b => unfold valX at h; split at h <;> cases h; rfl
theorem runX_flat {s : XSig} {x : Exc} {d : D} : ∀ {ss : List IXS}, runX s x ss = some (some d) → (toV d).isSome = true
  | [], h => by unfold runX at h; cases h
  | .ret e :: r, h => by
    unfold runX at h
    cases z : valX s x e with
    | none => rw [z] at h; cases h
    | some d' => rw [z] at h; cases h; exact valX_flat z
  | .ifRet t e :: r, h => by
    unfold runX at h
    split at h
    · cases z : valX s x e with
      | none => rw [z] at h; cases h
      | some d' => rw [z] at h; cases h; exact valX_flat z
    · exact runX_flat h
    · cases h
theorem ls_try {y n : Str} {kk : Nat} {body suite : List Stmt} {b₀ : Stmt} {np pos pos' : Pos} {wb : WS} {ss : List IXS} (k : XOk M C X c) (hs : X.stack = X.env :: X.outer) (hf : X.env.frame = some X.env.locals) (hi : X.N[i]? = some n) (hln : X.env.kindOf n = some .local) (hd : (n == ("__debug__" : Str)) = false) (hcd : (n == ("__classdict__" : Str)) = false)
    (hg : ckGl C y = true) (hcl : C.cl y = some kk) (hck : ckXS C n ss (b₀ :: suite) = true)
    (hb : ∀ (W : WX) (pn : List (Addr × Obj)) (xe : Value → Shared → Prop), Takes (X.tr pn xe) W → PassesOwn (model X.prog X.w) X.A X.env xe → PSs (X.tr pn xe) body (liftS { c with W := W } wb)) :
    PS X (.Try body [.ExceptHandler (some (.Name y np)) (some n) (b₀ :: suite) pos'] [] [] pos) (liftS c (sTry M.xs kk i ss wb)) := by
  have ok := k.xok
  have g := ckGl_of k hg
  have hm := k.cls y kk hcl
  have hnm : Names X y (.ref (c.T.cad kk)) := ⟨g.1, g.2.1, .inl hm⟩
  refine ps_weak (ps_try_as (Wout := c.W) (tb := fun W => liftS { c with W := W } wb) (ts := fun a cls dx => fun D0 σ H => ∃ x, tXS M.xs x (XAt c a i x cls dx) ss D0 σ H) hs hf k.nd hi hln hnm k.tk hb
    (fun a oe cls dx pn hz hfl => pss_ex fun x => sxs k hi (.inl hln) hd hcd hz hfl ss _ hck)) fun D0 σ H ⟨F, ρ, A, S, w, q⟩ => ?_
  refine ⟨F, ρ, _, S, w, ⟨q.nx, q.rt, q.bk, q.ct, fun x ρ1 cls dx σ1 F1 H1 hx S1 e1 rx => ?_, q.ro⟩⟩
  obtain ⟨h1, h2, h3, hx⟩ := hx
  obtain ⟨q0, m0, e0⟩ := XSig.of_has h1
  obtain ⟨q1, m1, e3⟩ := XSig.of_has h2
  have ec : cls = .ref (c.T.cad x.c) := rx.1
  refine ⟨M.xs.sub x.c kk, ?_, fun hb a na => ?_, fun hb => ?_⟩
  · rw [k.K, ec, ← e0, ← e3]
    exact PySem.W.exm_ref (ok.exC q1 m1) (ok.hdC q1 m1) (ok.ty q1 m1) (ok.sub q0 m0 q1 m1)
  · rw [if_pos hb] at hx
    have hlt : i < σ1.length := by rw [S1.len]; exact h3
    refine ⟨x, ⟨List.getElem?_set_self hlt, F1, rx⟩, ?_⟩
    cases er : runX M.xs x ss with
    | none => rw [er] at hx; exact hx.elim
    | some o =>
    cases o with
    | none =>
      rw [er] at hx
      have S2 := S1.set_emp i
      have := q.nx _ _ F1 H1 hx S2 e1
      show D0.nx ((σ1.set i _).set i none) H1
      rw [List.set_set]
      exact this
    | some d =>
      rw [er] at hx
      have ht := runX_flat er
      obtain ⟨v, hv⟩ := Option.isSome_iff_exists.mp ht
      refine ⟨v, hv, q.rt d v F1 H1 hx S1.gr e1 ?_⟩
      cases d <;> first | (cases hv; done) | (cases hv; exact rfl)
  · rw [if_neg (by rw [hb]; decide)] at hx
    exact q.xe x ρ1 cls dx σ1 F1 H1 hx S1 e1 rx
end
end Tr

set_option maxHeartbeats 4000000
namespace Tr
open PySem PySem.Spec PyProof.Rows L2

section
variable {c : Ct} {X : Cx} {M : Sm}
theorem putF_new {f : Str} {v : V} : ∀ {fs : List (Str × V)}, (∀ p ∈ fs, p.1 ≠ f) → putF f v fs = fs ++ [(f, v)]
  | [], _ => rfl
  | (g, x) :: r, h => by
    unfold putF
    rw [if_neg (h (g, x) List.mem_cons_self), putF_new fun p hp => h p (List.mem_cons_of_mem _ hp)]
    rfl
theorem ownI_of {o : Option Slot} {P : Nat → List Nat → List D → Prop} (h : ownI o P) : ∃ k ns ds, o = some (.own (.ins k ns ds)) ∧ P k ns ds := by
  unfold ownI at h
  split at h
  · exact ⟨_, _, _, rfl, h⟩
  · exact h.elim
theorem lf_list {x : Str} {p pos : Pos} {e : Expr} {es : List Expr} {wa : WA} (hK : X.K = c.K) (hg : Gl X x) (hm : X.mg x = none) (hv : bootBuiltins x = some (.type "list")) (ha : PA X (e :: es) (liftA c wa)) (hn : x ≠ "__name__") (hdb : (x == ("__debug__" : Str)) = false)
    (he : starEach (e :: es) X.env = (false, eval e X.env) :: starEach es X.env) (hpl : (backTo pos (starEach es X.env)).any (·.1) = false) : PE X (.Call (.Name x p) (e :: es) [] pos) (liftF c (wN bList wa)) := by
  refine pe_weak (pe_callTy call_list_of hg hm hv ha hn hdb he hpl) fun σ H Q ⟨F, ρ, P, E, S, w, q, x⟩ => ⟨F, ρ, _, E, S, w, fun ds vs F1 H1 w1 S1 e1 r1 => ?_, x⟩
  unfold bList at w1
  dsimp only at w1
  split at w1
  · obtain ⟨v, rfl, a, us, rfl, s1, r1⟩ := rs1 r1
    exact ⟨a, us, rfl, .inl (hK ▸ S1.gr.sub.seq s1), fun l nl => q _ us l F1 H1 w1 S1 e1 r1 nl⟩
  · obtain ⟨v, rfl, a, us, rfl, s1, r1⟩ := rs1 r1
    exact ⟨a, us, rfl, .inr (hK ▸ S1.gr.sub.sqT s1), fun l nl => q _ us l F1 H1 w1 S1 e1 r1 nl⟩
  · exact w1.elim
theorem ls_fld {n : Nat} {x : Str} {p1 p2 pos : Pos} {e : Expr} {w : WE} (hK : X.K = c.K) (ok : KOk c.K c.T M.sig) (hN : X.N[0]? = some x) (hv : Vis X.env.scope x) (hd : (x == ("__debug__" : Str)) = false) (hcd : (x == ("__classdict__" : Str)) = false) (he : PE X e (liftE c w))
    (hs : swapsWith e (some (.Attribute (.Name x p1) (c.T.nm n) p2)) pos.line X.env = pure false) : PS X (.Assign [.Attribute (.Name x p1) (c.T.nm n) p2] e pos) (liftS c (Tr.sFld M n w)) := by
  refine ps_weak (ps_fld (pe_var hN hv hd hcd) he hs) fun D0 σ H ⟨F, ρ, A, S, w, q⟩ => ⟨F, ρ, _, _, S, w, fun d v F1 H1 w1 S1 e1 r1 => ?_, q.qX σ ρ⟩
  obtain ⟨k, ns, ds, e0, h1, h2, h3, h4, w1⟩ := ownI_of w1
  obtain ⟨a, u, g1, g2, ⟨dx, vs, rfl, l, r⟩, g4, g5⟩ := S1.ownAt e0
  have lz : ((ns.map c.T.nm).zip vs).length = ns.length := by simp [l]
  refine ⟨.ref a, g1, a, _, dx, _, rfl, g2, hK ▸ ok.cls k h1, hK ▸ ok.na k n h2, by rw [lz]; omega, ?_⟩
  have ep : putF (c.T.nm n) v ((ns.map c.T.nm).zip vs) = ((ns ++ [n]).map c.T.nm).zip (vs ++ [v]) := by
    rw [putF_new, List.map_append, List.zip_append (by simp [l])]
    · rfl
    · intro p hp z
      have hm := (List.of_mem_zip hp).1
      rw [z] at hm
      obtain ⟨m, hm1, hm2⟩ := List.mem_map.mp hm
      have := ok.inj _ _ hm2
      subst this
      simp at h4
      exact h4 hm1
  rw [ep]
  exact q.nx _ _ F1 _ w1 (S1.write e0 g1 (o' := .ins k (ns ++ [n]) (ds ++ [d])) ⟨dx, vs ++ [v], rfl, by simp [l], r.append (Rs.one r1)⟩ fun _ _ _ _ => ⟨k, ns, ds, rfl⟩) e1
theorem pget_list : PGet X (rGetL X.K) := by
  intro pins s σ H o i ov iv Q I ro ri h
  obtain ⟨p, xs, k, v, rfl, rfl, hS, ha, q⟩ := h
  cases ro
  obtain ⟨t, rfl⟩ := ri
  obtain ⟨its, r, pl, hz⟩ := I.list hS
  obtain ⟨j, h1, h2, h3, h4, h5⟩ := atI_get ha
  obtain ⟨w, ew, rw'⟩ := r.get h2
  have hl := r.length
  have hn := line63
  have fin : EP X pins σ Q w s := ⟨v, H, I, rw', q⟩
  by_cases h0 : 0 ≤ k
  · have hj : k.toNat = j := by
      rw [seqIndex_of h0 h5] at h1
      exact Option.some.inj h1
    exact wpAny_getItem_list pl.isList h0 (by omega) (by rw [hj]; simpa using ew) fin
  · have hj : (k + (its.toArray.size : Int)).toNat = j := by
      rw [seqIndex_neg (by omega) h4] at h1
      rw [List.size_toArray, ← hl]
      exact Option.some.inj h1
    exact wpAny_getItem_list_neg pl.isList (by omega) (by rw [List.size_toArray] <;> omega) (by omega) (by rw [hj]; simpa using ew) fin
theorem ls_putA {i : Nat} {x : Str} {p1 p2 pos : Pos} {k e : Expr} {wi w : WE} {op : Operator} {f : Int → Int → Int} (hN : X.N[i]? = some x) (hv : Vis X.env.scope x) (hd : (x == ("__debug__" : Str)) = false) (hcd : (x == ("__classdict__" : Str)) = false) (he : PE X e (liftE c w)) (hk : PE X k (liftE c wi)) (hp : PIp X op (ipI f))
    (ha : ∀ ov iv new, augStore k ov iv new = (do holding [new, ov, iv] (setItem ov iv new); release [new, ov, iv] []; pure .next)) :
    PS X (.AugAssign (.Subscript (.Name x p1) k p2) op e pos) (liftS c (sPutA i f wi w)) := by
  refine ps_weak (ps_augS (pe_var hN hv hd hcd) hk pget_list he hp set_list ha) fun D0 σ H ⟨F, ρ, A, S, w, q⟩ => ?_
  obtain ⟨ds, e, w⟩ := ownL_of w
  obtain ⟨a, u, g1, g2, ⟨vs, rfl, r⟩, g4, g5⟩ := S.ownAt e
  refine ⟨.ref a, g1, F, ρ, _, _, S, w, fun d v F1 H1 w1 S1 e1 r1 => ?_, q.qX σ ρ⟩
  obtain ⟨z, rfl, w1⟩ := isInt_of w1
  obtain ⟨j, ej, w1⟩ := hasI_of w1
  obtain ⟨old, eo, w1⟩ := hasI_of w1
  obtain ⟨m, rfl, w1⟩ := isInt_of w1
  cases r1
  obtain ⟨b, u, k1, k2, ⟨us, rfl, r3⟩, k4, k5⟩ := S1.ownAt e
  rw [g1] at k1
  cases k1
  obtain ⟨v2, h1, h2⟩ := r3.at eo
  cases h2
  refine ⟨a, us, z, _, rfl, rfl, .inl (.inl k2), h1, F1, ρ, _, _, S1, w1, fun d2 v2 F2 H2 w2 S2 e2 r2 => ?_, (q.qX σ ρ).up e1⟩
  obtain ⟨n, rfl, w2⟩ := isInt_of w2
  cases r2
  obtain ⟨b, u, k1, k2, ⟨us2, rfl, r4⟩, k4, k5⟩ := S2.ownAt e
  rw [g1] at k1
  cases k1
  refine ⟨m, n, rfl, rfl, a, us2, z, j, rfl, rfl, k2, by rw [← r4.length]; exact ej, ?_⟩
  exact q.nx _ _ F2 _ w2 (S2.write e g1 (o' := .lst (ds.set j (.int (f m n)))) ⟨us2.set j _, rfl, r4.set j rfl⟩ fun _ _ _ z => nomatch z) (e1.trans e2)

/-! ### the check of statements -/
def ckT1 (C : Ck) : Bool × Nat → Expr → Bool
  | (false, i), .Name x _ => ckLoc C i x
  | (true, n), .Attribute (.Name x _) f _ => decide (f = C.mid n) && ckVar C 0 x
  | _, _ => false
def ckTs (C : Ck) : List (Bool × Nat) → List Expr → Bool
  | [], [] => true
  | t :: ts, y :: ys => plainE y && ckT1 C t y && ckTs C ts ys
  | _, _ => false
/-- the store of a comprehension's value swaps -/
def swapB (C : Ck) (x : Str) (xp : Pos) (scope : Scope) (vp : Pos) : Bool := decide (C.sc.kind = .function) && decide (C.sc.names.lookup x = some .local) && decide (xp.line = vp.line) && !(scope.names.any fun y => y.1 == x && (y.2 == .local || y.2 == .cell))
def cellB (C : Ck) (x : Str) : Bool := decide (C.sc.names.lookup x = some .cell)
def noSwapT : Expr → Expr → Bool
  | .Tuple .., .Tuple vs .. => vs.all (foldedForSure 8) | .List .., .Tuple .. => false | _, _ => true
/-- what makes a new list -/
def ckFr (C : Ck) : IE → Expr → Bool
  | .lst es, .List ys _ => ckA C es ys
  | .bin .Add a b, .BinOp x .Add y _ => ckE C a x && ckE C b y
  | .call g es, .Call (.Name f _) (z :: zs) [] _ => ckGl C f && decide (C.fn f = some g) && C.ow g && ckA C es (z :: zs)
  | .lc own g2 it cond elt, .ListComp z gens scope vp => ckE C (.lc own g2 it cond elt) (.ListComp z gens scope vp)
  | _, _ => false
mutual
def ckS (C : Ck) : IS → Stmt → Bool
  | .set g e, .Assign [tg] y _ => (match g, e, tg, y with
      | .nm i, .lc own g2 it cond elt, .Name x xp, .ListComp z gens scope vp => (swapB C x xp scope vp || cellB C x) && ckLoc C i x && ckE C (.lc own g2 it cond elt) (.ListComp z gens scope vp)
      | .nm i, .lc2 own g0 it0 g1 it1 elt, .Name x xp, .ListComp z gens scope vp => (swapB C x xp scope vp || cellB C x) && ckLoc C i x && ckE C (.lc2 own g0 it0 g1 it1 elt) (.ListComp z gens scope vp)
      | _, _, _, _ => notComp y && noSwapT tg y && plainE tg && ckG C g tg && ckE C e y)
  | .new i e, .Assign [.Name x xp] y _ => (match e, y with
      | .lc own g2 it cond elt, .ListComp z gens scope vp => (swapB C x xp scope vp || cellB C x) && ckLoc C i x && ckE C (.lc own g2 it cond elt) (.ListComp z gens scope vp)
      | .lst es, .List ys _ => ckLoc C i x && ckA C es ys
      | .blt .list es, .Call (.Name f _) (z :: zs) [] _ => ckLoc C i x && decide (f = ("list" : Str)) && ckBl C f && ckA C es (z :: zs)
      | .call g es, .Call (.Name f _) (z :: zs) [] _ => ckLoc C i x && ckGl C f && decide (C.fn f = some g) && C.ow g && ckA C es (z :: zs)
      | _, _ => false)
  | .app i e, .Expr (.Call (.Attribute (.Name x _) m p2) [y] [] p3) _ => decide (m = ("append" : Str)) && ckVar C i x && (p2.endLine == p3.line) && plainE y && ckE C e y
  | .put i k e, .Assign [.Subscript (.Name x _) z _] y _ => ckVar C i x && notComp y && plainE z && ckE C k z && ckE C e y
  | .digS i k e, .Assign [.Subscript (.Name x _) z _] y _ => ckVar C i x && notComp y && plainE z && ckE C k z && ckE C e y
  | .newD i, .Assign [.Name x _] (.Dict [] [] _) _ => ckLoc C i x
  | .putD i k e, .Assign [.Subscript (.Name x _) z _] y _ => ckVar C i x && notComp y && plainE z && ckE C k z && ckE C e y
  | .putA i op k e, .AugAssign (.Subscript (.Name x _) z _) o y _ => decide (op = o) && ckVar C i x && plainE z && ckE C k z && ckE C e y
  | .aug i op e, .AugAssign (.Name x _) o y _ => decide (op = o) && ckLoc C i x && ckE C e y
  | .fld n e, .Assign [.Attribute (.Name x _) f _] y _ => decide (f = C.mid n) && ckVar C 0 x && ckE C e y
  | .ret e, .Return (some y) _ => ckE C e y
  | .retN, .Return none _ => true
  | .iff t a b, .If y xs ys _ => ckT C t y && ckB C a xs && ckB C b ys
  | .expr e, .Expr y _ => notComp y && ckE C e y
  | .brk, .Break _ => true
  | .cnt, .Continue _ => true
  | .pass, .Pass _ => true
  | .pass, .Expr (.Constant (.str _) _ _) _ => true
  | .for g it b, .For tg y body [] _ => ckI C tg it y && ckG C g tg && ckB C b body
  | .while t b, .While y body [] _ => ckT C t y && ckB C b body
  | .bad, _ => true
  | .par i j a b, .Assign [.Tuple [.Name x px, .Name y py] _ _] (.Tuple [u, v] _ _) _ => parB C i j x px y py u v && ckE C a u && ckE C b v
  | .retO i, .Return (some (.Name x _)) _ => ckVar C i x
  | .ext i e, .Expr (.Call (.Attribute (.Name x _) m p2) [y] [] p3) _ => decide (m = ("extend" : Str)) && ckVar C i x && (p2.endLine == p3.line) && plainE y && ckFr C e y
  | .retF e, .Return (some y) _ => ckFr C e y
  | .lend is i e, .Assign [.Name x xp] y _ => notComp y && noSwapT (.Name x xp) y && ckLoc C i x && ckE C e y
  | .setF ts e, .Assign [.Tuple ys k p] y _ => notComp y && noSwapT (.Tuple ys k p) y && ckTs C ts ys && ckE C e y
  | .fldP n e, .Assign [.Attribute (.Name x _) f _] y _ => decide (f = C.mid n) && ckVar C 0 x && notComp y && ckE C e y
  | .raise k f e, .Raise (some (.Call (.Name x _) [y] [] _)) none _ => ckGl C x && decide (C.xr x = some (k, f)) && plainE y && ckE C e y
  | .try b k i s, .Try body [.ExceptHandler (some (.Name y _)) (some n) (b₀ :: suite) _] [] [] _ => ckGl C y && decide (C.cl y = some k) && decide (C.N[i]? = some n) && decide (C.sc.names.lookup n = some .local) && plainN n && ckXS C n s (b₀ :: suite) && ckB C b body
  | _, _ => false
def ckB (C : Ck) : List IS → List Stmt → Bool
  | [], [] => true
  | .frz _ :: r, ys => ckB C r ys
  | s :: r, y :: ys => ckS C s y && ckB C r ys
  | _, _ => false
end

/-- .. and of a body, what its context must be -/
structure BOk (M : Sm) (C : Ck) (X : Cx) (c : Ct) : Prop extends XOk M C X c where
  po : PassesOwn (model X.prog X.w) X.A X.env X.xe
  stk : X.stack = X.env :: X.outer
  frm : X.env.frame = some X.env.locals
/-- the context of a try's body -/
theorem BOk.tr {M : Sm} {C : Ck} {X : Cx} {c : Ct} (k : BOk M C X c) {W : WX} {pn : List (Addr × Obj)} {xe : Value → Shared → Prop} (tk : Takes (X.tr pn xe) W) (po : PassesOwn (model X.prog X.w) X.A X.env xe) : BOk M C (X.tr pn xe) { c with W := W } where
  K := k.K
  N := k.N
  sc := k.sc
  nd := k.nd
  calm := k.calm
  tk := tk
  un := k.un
  kok := k.kok
  mem := k.mem
  pw := k.pw
  lam := fun h => ⟨(k.lam h).ex⟩
  mid := k.mid
  fnl := k.fnl
  fns := fun x f h => ⟨(k.fns x f h).ex⟩
  mks := fun x f h => ⟨(k.mks x f h).ex⟩
  mts := fun a m f h => ⟨(k.mts a m f h).ex⟩
  pts := fun a m f h => ⟨(k.pts a m f h).ex⟩
  cls := k.cls
  cons := k.cons
  blt := k.blt
  libq := k.libq
  libg := k.libg
  hshp := k.hshp
  mkk := fun x s sh h h2 => ⟨(k.mkk x s sh h h2).ex⟩
  hshf := k.hshf
  fnk := fun x s sh h h2 => ⟨(k.fnk x s sh h h2).ex⟩
  xrs := fun x i f h => ⟨(k.xrs x i f h).ex⟩
  xok := k.xok
  ows := fun x f h h2 => ⟨(k.ows x f h h2).ex⟩
  po := po
  stk := k.stk
  frm := k.frm
theorem swap_no {y tg : Expr} {n : Nat} {env : Env} (h : notComp y = true) : swapsWithSole [tg] y n env = pure false := by
  cases y <;> first | rfl | (cases h)
theorem swap_no1 {y : Expr} {o : Option Expr} {n : Nat} {env : Env} (h : notComp y = true) : swapsWith y o n env = pure false := by
  cases y <;> first | rfl | (cases h)
theorem swap_noA {y a : Expr} {f : Str} {p : Pos} {n : Nat} {env : Env} : swapsWith y (some (.Attribute a f p)) n env = pure false := by
  cases y <;> rfl
theorem stores_fold {ts vs : List Expr} {k1 k2 : Nat} {p1 p2 : Pos} {env : Env} (h : vs.all (foldedForSure 8) = true) : swappedStores [.Tuple ts k1 p1] (.Tuple vs k2 p2) env = pure none := by
  unfold swappedStores
  simp only [h, if_true]
  split
  · rfl
  · split
    · rfl
    · split <;> rfl
theorem stores_no {tg y : Expr} {env : Env} (h : noSwapT tg y = true) : swappedStores [tg] y env = pure none := by
  cases tg <;> first | rfl | (cases y <;> first | rfl | exact stores_fold h | (cases h))
theorem one_of {tg : Expr} {env : Env} (h : plainE tg = true) : (assignEach [tg] env).map (·.2) = [assign tg env] := by
  cases tg <;> first | rfl | (cases h)
theorem sub_of {o k : Expr} {p : Pos} {env : Env} (h : plainE k = true) : ∀ v, assign (.Subscript o k p) env v = (do
      let ov ← holding [v] (eval o env)
      let iv ← holding [v, ov] (eval k env)
      standAt p
      holding [v, ov, iv] (setItem ov iv v)
      release [v, ov, iv] []) := by
  intro v
  cases k <;> first | rfl | (cases h)
theorem aug_of {k : Expr} (h : plainE k = true) : ∀ ov iv new, augStore k ov iv new = (do holding [new, ov, iv] (setItem ov iv new); release [new, ov, iv] []; pure .next) := by
  intro ov iv new
  cases k <;> first | rfl | (cases h)
theorem swap_yes {C : Ck} (k : XOk M C X c) {x : Str} {xp vp : Pos} {z : Expr} {gens : List Comprehension} {scope : Scope} {n : Nat} (h : swapB C x xp scope vp = true) : swapsWith (.ListComp z gens scope vp) (some (.Name x xp)) n X.env = pure true ∧ X.env.scope.names.lookup x = some .local := by
  unfold swapB at h
  obtain ⟨h, h4⟩ := and2 h
  obtain ⟨h, h3⟩ := and2 h
  obtain ⟨h1, h2⟩ := and2 h
  have e1 := of_decide_eq_true h1
  have e2 := of_decide_eq_true h2
  have e3 := of_decide_eq_true h3
  rw [← k.sc] at e1 e2
  refine ⟨?_, e2⟩
  have bk : X.env.blockKind = .function := by
    unfold Env.blockKind
    rw [e1]
    rfl
  have kd : X.env.kindOf x = some .local := e2
  show (pure (X.env.blockKind == .function && X.env.kindOf x == some .local && xp.line == vp.line && !(scope.names.any fun (n, k) => n == x && (k == .local || k == .cell))) : Sem Bool) = pure true
  rw [bk, kd, e3]
  have h4 : (!(scope.names.any fun (n, k) => n == x && (k == .local || k == .cell))) = true := h4
  rw [h4]
  simp
theorem swap_cell {C : Ck} (k : XOk M C X c) {x : Str} {xp vp : Pos} {z : Expr} {gens : List Comprehension} {scope : Scope} {n : Nat} (h : cellB C x = true) : swapsWith (.ListComp z gens scope vp) (some (.Name x xp)) n X.env = pure false := by
  have e2 := of_decide_eq_true h
  rw [← k.sc] at e2
  have kd : X.env.kindOf x = some .cell := e2
  show (pure (X.env.blockKind == .function && X.env.kindOf x == some .local && xp.line == vp.line && !(scope.names.any fun (n, k) => n == x && (k == .local || k == .cell))) : Sem Bool) = pure false
  rw [kd]
  have : (some NameKind.cell == some NameKind.local) = false := by decide
  rw [this]
  simp
theorem lc_expr {C : Ck} (k : XOk M C X c) {vp : Pos} {z : Expr} {gens : List Comprehension} {scope : Scope} {own : List (Str × Nat)} {g : IG} {it : II} {cond : List IT} {elt : IE} (h : ckE C (.lc own g it cond elt) (.ListComp z gens scope vp) = true) :
    PE X (.ListComp z gens scope vp) (liftF c (semE M (.lc own g it cond elt))) := by
  match gens, h with
  | [⟨tg, iter, ifs, 0⟩], h =>
    obtain ⟨h, h6⟩ := and2 (show (blkC C.N C.sc scope own && ((slG g).all fun i => (own.map (·.2)).contains i) && ckI C tg it iter && ckG { C with sc := relS scope C.sc, fnl := (fun x => scope.names.lookup x == some .cell), lam := false } g tg && ckC { C with sc := relS scope C.sc, fnl := (fun x => scope.names.lookup x == some .cell), lam := false } cond ifs && ckE { C with sc := relS scope C.sc, fnl := (fun x => scope.names.lookup x == some .cell), lam := false } elt z) = true from h)
    obtain ⟨h, h5⟩ := and2 h
    obtain ⟨h, h4⟩ := and2 h
    obtain ⟨h, h3⟩ := and2 h
    obtain ⟨hb, h2'⟩ := and2 h
    have ok : BlkOk X.N X.env.scope scope own := by rw [k.N, k.sc]; exact blkOk_by hb
    obtain ⟨tt, t1, t2⟩ := sc cond k scope ifs h5
    exact lf_lc k.calm k.nd (si it k tg iter h3) ok (fun i hi => by simpa using List.all_eq_true.mp h2' i hi) t1
      (fun s H Cc cl fp B => sg g (k.blk s H scope cl Cc fp B) tg h4) t2
      (fun s H Cc cl fp B => se elt (k.blk s H scope cl Cc fp B) z h6) (ckI_fold h3)
theorem sfr {C : Ck} (k : XOk M C X c) : ∀ (e : IE) (y : Expr), ckFr C e y = true → PE X y (liftN c (semE M e)) := fun e y h => by
  unfold ckFr at h
  split at h
  · exact lg_of (lf_lst (sa _ k _ h))
  · obtain ⟨h1, h2⟩ := and2 h
    exact lg_add k.K (se _ k _ h1) (se _ k _ h2)
  · obtain ⟨h, h5⟩ := and2 h
    obtain ⟨h, h4⟩ := and2 h
    obtain ⟨h2, h3⟩ := and2 h
    have g := ckGl_of k h2
    have pl := ckA_head h5
    obtain ⟨w', j, fa, fd, ps, ew, Fo, hw, hr, hm, hk, hb⟩ := (k.ows _ _ h4 (of_decide_eq_true h3)).ex
    show PE X _ (liftN c (wN (M.sem _) (semA M _)))
    rw [ew]
    exact lg_of (lf_call k.tk Fo hw hr g.1 hm hk hb (sa _ k _ h5) g.2.1 (star_of pl.1) (pl.2 _ _))
  · exact lg_of (lc_expr k h)
  · cases h
theorem lc_stmt {C : Ck} (k : XOk M C X c) {i : Nat} {x : Str} {xp vp pos : Pos} {z : Expr} {gens : List Comprehension} {scope : Scope} {own : List (Str × Nat)} {g : IG} {it : II} {cond : List IT} {elt : IE} (h1 : swapB C x xp scope vp = true) (h2 : ckLoc C i x = true) (h : ckE C (.lc own g it cond elt) (.ListComp z gens scope vp) = true) :
    PS X (.Assign [.Name x xp] (.ListComp z gens scope vp) pos) (tAsg (liftF c (semE M (.lc own g it cond elt))) (gName i)) := by
  obtain ⟨sw, lo⟩ := swap_yes k (z := z) (gens := gens) (n := pos.line) h1
  match gens, h with
  | [⟨tg, iter, ifs, 0⟩], h =>
    obtain ⟨h, h6⟩ := and2 (show (blkC C.N C.sc scope own && ((slG g).all fun i => (own.map (·.2)).contains i) && ckI C tg it iter && ckG { C with sc := relS scope C.sc, fnl := (fun x => scope.names.lookup x == some .cell), lam := false } g tg && ckC { C with sc := relS scope C.sc, fnl := (fun x => scope.names.lookup x == some .cell), lam := false } cond ifs && ckE { C with sc := relS scope C.sc, fnl := (fun x => scope.names.lookup x == some .cell), lam := false } elt z) = true from h)
    obtain ⟨h, h5⟩ := and2 h
    obtain ⟨h, h4⟩ := and2 h
    obtain ⟨h, h3⟩ := and2 h
    obtain ⟨hb, h2'⟩ := and2 h
    have ok : BlkOk X.N X.env.scope scope own := by rw [k.N, k.sc]; exact blkOk_by hb
    obtain ⟨tt, t1, t2⟩ := sc cond k scope ifs h5
    exact ls_lc k.calm k.nd (ckLoc_of k h2).1 lo sw (si it k tg iter h3) ok (fun i hi => by simpa using List.all_eq_true.mp h2' i hi) t1
      (fun s H Cc cl fp B => sg g (k.blk s H scope cl Cc fp B) tg h4) t2
      (fun s H Cc cl fp B => se elt (k.blk s H scope cl Cc fp B) z h6) (ckI_fold h3)
theorem lc2_expr {C : Ck} (k : XOk M C X c) {vp : Pos} {z : Expr} {gens : List Comprehension} {scope : Scope} {own : List (Str × Nat)} {g0 g1 : IG} {it0 it1 : II} {elt : IE} (h : ckE C (.lc2 own g0 it0 g1 it1 elt) (.ListComp z gens scope vp) = true) :
    PE X (.ListComp z gens scope vp) (liftF c (semE M (.lc2 own g0 it0 g1 it1 elt))) := by
  match gens, h with
  | [⟨tg0, iter0, [], 0⟩, ⟨tg1, iter1, [], 0⟩], h =>
    obtain ⟨h, h8⟩ := and2 (show (blkC C.N C.sc scope own && ((slG g0).all fun i => (own.map (·.2)).contains i) && ((slG g1).all fun i => (own.map (·.2)).contains i) && ckI C tg0 it0 iter0 && ckG { C with sc := relS scope C.sc, fnl := (fun x => scope.names.lookup x == some .cell), lam := false } g0 tg0 && ckI { C with sc := relS scope C.sc, fnl := (fun x => scope.names.lookup x == some .cell), lam := false } tg1 it1 iter1 && ckG { C with sc := relS scope C.sc, fnl := (fun x => scope.names.lookup x == some .cell), lam := false } g1 tg1 && ckE { C with sc := relS scope C.sc, fnl := (fun x => scope.names.lookup x == some .cell), lam := false } elt z) = true from h)
    obtain ⟨h, h7⟩ := and2 h
    obtain ⟨h, h6⟩ := and2 h
    obtain ⟨h, h5⟩ := and2 h
    obtain ⟨h, h4⟩ := and2 h
    obtain ⟨h, h3⟩ := and2 h
    obtain ⟨hb, h2'⟩ := and2 h
    have ok : BlkOk X.N X.env.scope scope own := by rw [k.N, k.sc]; exact blkOk_by hb
    exact lf_lc2 (sl := slG g0) (sl1 := slG g1) (vs1 := slG g1) k.calm k.nd (si it0 k tg0 iter0 h4) ok (fun i hi => by simpa using List.all_eq_true.mp h2' i hi) (fun i hi => hi) (fun i hi => by simpa using List.all_eq_true.mp h3 i hi)
          (fun s H Cc cl fp B => sg g0 (k.blk s H scope cl Cc fp B) tg0 h5) (fun s H Cc cl fp B => si it1 (k.blk s H scope cl Cc fp B) tg1 iter1 h6) (fun s H Cc cl fp B => sg g1 (k.blk s H scope cl Cc fp B) tg1 h7)
          (fun s H Cc cl fp B => se elt (k.blk s H scope cl Cc fp B) z h8)
          (ckI_fold h4) (fun _ => ckI_fold h6)
theorem lc2_stmt {C : Ck} (k : XOk M C X c) {i : Nat} {x : Str} {xp vp pos : Pos} {z : Expr} {gens : List Comprehension} {scope : Scope} {own : List (Str × Nat)} {g0 g1 : IG} {it0 it1 : II} {elt : IE} (h1 : swapB C x xp scope vp = true) (h2 : ckLoc C i x = true) (h : ckE C (.lc2 own g0 it0 g1 it1 elt) (.ListComp z gens scope vp) = true) :
    PS X (.Assign [.Name x xp] (.ListComp z gens scope vp) pos) (tAsg (liftF c (semE M (.lc2 own g0 it0 g1 it1 elt))) (gName i)) := by
  obtain ⟨sw, lo⟩ := swap_yes k (z := z) (gens := gens) (n := pos.line) h1
  match gens, h with
  | [⟨tg0, iter0, [], 0⟩, ⟨tg1, iter1, [], 0⟩], h =>
    obtain ⟨h, h8⟩ := and2 (show (blkC C.N C.sc scope own && ((slG g0).all fun i => (own.map (·.2)).contains i) && ((slG g1).all fun i => (own.map (·.2)).contains i) && ckI C tg0 it0 iter0 && ckG { C with sc := relS scope C.sc, fnl := (fun x => scope.names.lookup x == some .cell), lam := false } g0 tg0 && ckI { C with sc := relS scope C.sc, fnl := (fun x => scope.names.lookup x == some .cell), lam := false } tg1 it1 iter1 && ckG { C with sc := relS scope C.sc, fnl := (fun x => scope.names.lookup x == some .cell), lam := false } g1 tg1 && ckE { C with sc := relS scope C.sc, fnl := (fun x => scope.names.lookup x == some .cell), lam := false } elt z) = true from h)
    obtain ⟨h, h7⟩ := and2 h
    obtain ⟨h, h6⟩ := and2 h
    obtain ⟨h, h5⟩ := and2 h
    obtain ⟨h, h4⟩ := and2 h
    obtain ⟨h, h3⟩ := and2 h
    obtain ⟨hb, h2'⟩ := and2 h
    have ok : BlkOk X.N X.env.scope scope own := by rw [k.N, k.sc]; exact blkOk_by hb
    exact ls_lc2 (sl := slG g0) (sl1 := slG g1) (vs1 := slG g1) k.calm k.nd (ckLoc_of k h2).1 lo sw (si it0 k tg0 iter0 h4) ok (fun i hi => by simpa using List.all_eq_true.mp h2' i hi) (fun i hi => hi) (fun i hi => by simpa using List.all_eq_true.mp h3 i hi)
          (fun s H Cc cl fp B => sg g0 (k.blk s H scope cl Cc fp B) tg0 h5) (fun s H Cc cl fp B => si it1 (k.blk s H scope cl Cc fp B) tg1 iter1 h6) (fun s H Cc cl fp B => sg g1 (k.blk s H scope cl Cc fp B) tg1 h7)
          (fun s H Cc cl fp B => se elt (k.blk s H scope cl Cc fp B) z h8)
          (ckI_fold h4) (fun _ => ckI_fold h6)
theorem sgf1 {C : Ck} (k : XOk M C X c) {t : Bool × Nat} {y : Expr} (h : ckT1 C t y = true) : PG X y (liftF1 c fun d ρ P => stF M.sig [t] [d] ρ P) := by
  obtain ⟨b, n⟩ := t
  cases b with
  | false =>
    cases y with
    | Name x p =>
      have q := ckLoc_of k (show ckLoc C n x = true from h)
      exact lg_nm k.nd q.1 q.2.1 q.2.2
    | _ => cases h
  | true =>
    cases y with
    | Attribute o f p =>
      cases o with
      | Name x p1 =>
        obtain ⟨h1, h2⟩ := and2 (show (decide (f = C.mid n) && ckVar C 0 x) = true from h)
        have ef := of_decide_eq_true h1
        rw [k.mid] at ef
        subst ef
        have q := ckVar_of k h2
        exact lg_fld k.K k.kok q.1 q.2.1 q.2.2.1 q.2.2.2
      | _ => cases h
    | _ => cases h
theorem sgfs {C : Ck} (k : XOk M C X c) : ∀ (ts : List (Bool × Nat)) (ys : List Expr), ckTs C ts ys = true → PGs X ys (liftFs c (stF M.sig ts)) ∧ (assignEach ys X.env).length = ts.length ∧ (assignEach ys X.env).findIdx? (·.1) = none
  | [], ys, h => by
    cases ys with
    | nil => exact ⟨lgf_nil, rfl, rfl⟩
    | cons => cases h
  | t :: ts, ys, h => by
    cases ys with
    | nil => cases h
    | cons y ys =>
      obtain ⟨h, h3⟩ := and2 (show (plainE y && ckT1 C t y && ckTs C ts ys) = true from h)
      obtain ⟨h1, h2⟩ := and2 h
      obtain ⟨q1, q2, q3⟩ := sgfs k ts ys h3
      have ea : assignEach (y :: ys) X.env = (false, assign y X.env) :: assignEach ys X.env := by
        cases y <;> first | rfl | (cases h1)
      refine ⟨lgf_cons (sgf1 k h2) q1 (by rw [ea]; rfl), by rw [ea]; simpa using q2, ?_⟩
      rw [ea, List.findIdx?_cons]
      simp [q3]
mutual
theorem ss : ∀ (s : IS) {C : Ck} {X : Cx} {c : Ct} (_ : BOk M C X c) (y : Stmt), ckS C s y = true → PS X y (liftS c (semS M s))
  | .set g e, C, X, c, k, y, h => by
    cases y with
    | Assign tgs y p =>
      match tgs, h with
      | [tg], h =>
        have gen : (notComp y && noSwapT tg y && plainE tg && ckG C g tg && ckE C e y) = true → PS X (.Assign [tg] y p) (liftS c (sSet (semG g) (semE M e))) := fun h => by
          obtain ⟨h, h5⟩ := and2 h
          obtain ⟨h, h4⟩ := and2 h
          obtain ⟨h, h3⟩ := and2 h
          obtain ⟨h1, h2⟩ := and2 h
          exact ls_set (se e k.toXOk y h5) (sg g k.toXOk tg h4) (swap_no h1) (stores_no h2) (one_of h3)
        simp only [ckS] at h
        split at h
        · obtain ⟨h, h3⟩ := and2 h
          obtain ⟨h1, h2⟩ := and2 h
          rcases (Bool.or_eq_true _ _).mp h1 with h1 | h1
          · exact ls_lcV (lc_stmt k.toXOk h1 h2 h3)
          · exact ls_set (lv_of_lf (lc_expr k.toXOk h3)) (sg (.nm _) k.toXOk _ h2) (swap_cell (n := p.line) k.toXOk h1) rfl rfl
        · obtain ⟨h, h3⟩ := and2 h
          obtain ⟨h1, h2⟩ := and2 h
          rcases (Bool.or_eq_true _ _).mp h1 with h1 | h1
          · exact ls_lcV (lc2_stmt k.toXOk h1 h2 h3)
          · exact ls_set (lv_of_lf (lc2_expr k.toXOk h3)) (sg (.nm _) k.toXOk _ h2) (swap_cell (n := p.line) k.toXOk h1) rfl rfl
        · exact gen h
    | _ => cases h
  | .new i e, C, X, c, k, y, h => by
    cases y with
    | Assign tgs y p =>
      match tgs, h with
      | [.Name x xp], h =>
        simp only [ckS] at h
        split at h
        · obtain ⟨h, h3⟩ := and2 h
          obtain ⟨h1, h2⟩ := and2 h
          rcases (Bool.or_eq_true _ _).mp h1 with h1 | h1
          · exact ls_lcO (lc_stmt k.toXOk h1 h2 h3)
          · have q := ckLoc_of k.toXOk h2
            exact ls_new k.nd q.1 q.2.1 q.2.2 (lc_expr k.toXOk h3) (swap_cell (n := p.line) k.toXOk h1)
        · obtain ⟨h1, h2⟩ := and2 h
          have q := ckLoc_of k.toXOk h1
          exact ls_new k.nd q.1 q.2.1 q.2.2 (lf_lst (sa _ k.toXOk _ h2)) rfl
        · obtain ⟨h, h4⟩ := and2 h
          obtain ⟨h, h3⟩ := and2 h
          obtain ⟨h1, h2⟩ := and2 h
          have q := ckLoc_of k.toXOk h1
          obtain ⟨g, m, d, n⟩ := ckBl_of k.toXOk h3
          have e2 := of_decide_eq_true h2
          have pl := ckA_head h4
          exact ls_new k.nd q.1 q.2.1 q.2.2 (lf_list k.K g m (by subst e2; decide +kernel) (sa _ k.toXOk _ h4) n d (star_of pl.1) (pl.2 _ _)) rfl
        · obtain ⟨h, h5⟩ := and2 h
          obtain ⟨h, h4⟩ := and2 h
          obtain ⟨h, h3⟩ := and2 h
          obtain ⟨h1, h2⟩ := and2 h
          have q := ckLoc_of k.toXOk h1
          have g := ckGl_of k.toXOk h2
          have pl := ckA_head h5
          obtain ⟨w', j, fa, fd, ps, ew, Fo, hw, hr, hm, hk, hb⟩ := (k.toXOk.ows _ _ h4 (of_decide_eq_true h3)).ex
          show PS X _ (liftS c (sNew _ (wN (M.sem _) (semA M _))))
          rw [ew]
          exact ls_new k.nd q.1 q.2.1 q.2.2 (lf_call k.toXOk.tk Fo hw hr g.1 hm hk hb (sa _ k.toXOk _ h5) g.2.1 (star_of pl.1) (pl.2 _ _)) rfl
        · cases h
    | _ => cases h
  | .app i e, C, X, c, k, y, h => by
    cases y with
    | Expr y p =>
      match y, h with
      | .Call (.Attribute (.Name x p1) m p2) [y] [] p3, h =>
        obtain ⟨h, h5⟩ := and2 (show (decide (m = ("append" : Str)) && ckVar C i x && (p2.endLine == p3.line) && plainE y && ckE C e y) = true from h)
        obtain ⟨h, h4⟩ := and2 h
        obtain ⟨h, h3⟩ := and2 h
        obtain ⟨h1, h2⟩ := and2 h
        have q := ckVar_of k.toXOk h2
        exact ls_app (of_decide_eq_true h1) q.1 q.2.1 q.2.2.1 q.2.2.2 (se e k.toXOk y h5) rfl h3 (star_of h4)
    | _ => cases h
  | .put i kk e, C, X, c, k, y, h => by
    cases y with
    | Assign tgs y p =>
      match tgs, h with
      | [.Subscript (.Name x p1) z p2], h =>
        obtain ⟨h, h5⟩ := and2 (show (ckVar C i x && notComp y && plainE z && ckE C kk z && ckE C e y) = true from h)
        obtain ⟨h, h4⟩ := and2 h
        obtain ⟨h, h3⟩ := and2 h
        obtain ⟨h1, h2⟩ := and2 h
        have q := ckVar_of k.toXOk h1
        exact ls_put q.1 q.2.1 q.2.2.1 q.2.2.2 (se e k.toXOk y h5) (se kk k.toXOk z h4) (swap_no h2) (sub_of h3)
    | _ => cases h
  | .newD i, C, X, c, k, y, h => by
    cases y with
    | Assign tgs y p =>
      match tgs, y, h with
      | [.Name x xp], .Dict [] [] dp, h =>
        have q := ckLoc_of k.toXOk (show ckLoc C i x = true from h)
        exact ls_newD k.nd q.1 q.2.1 q.2.2 rfl
    | _ => cases h
  | .putD i kk e, C, X, c, k, y, h => by
    cases y with
    | Assign tgs y p =>
      match tgs, h with
      | [.Subscript (.Name x p1) z p2], h =>
        obtain ⟨h, h5⟩ := and2 (show (ckVar C i x && notComp y && plainE z && ckE C kk z && ckE C e y) = true from h)
        obtain ⟨h, h4⟩ := and2 h
        obtain ⟨h, h3⟩ := and2 h
        obtain ⟨h1, h2⟩ := and2 h
        have q := ckVar_of k.toXOk h1
        exact ls_putD k.un q.1 q.2.1 q.2.2.1 q.2.2.2 (se e k.toXOk y h5) (se kk k.toXOk z h4) (swap_no1 h2)
    | _ => cases h
  | .digS i kk e, C, X, c, k, y, h => by
    cases y with
    | Assign tgs y p =>
      match tgs, h with
      | [.Subscript (.Name x p1) z p2], h =>
        obtain ⟨h, h5⟩ := and2 (show (ckVar C i x && notComp y && plainE z && ckE C kk z && ckE C e y) = true from h)
        obtain ⟨h, h4⟩ := and2 h
        obtain ⟨h, h3⟩ := and2 h
        obtain ⟨h1, h2⟩ := and2 h
        have q := ckVar_of k.toXOk h1
        exact ls_dig q.1 q.2.1 q.2.2.1 q.2.2.2 (se e k.toXOk y h5) (se kk k.toXOk z h4) (swap_no h2) (sub_of h3)
    | _ => cases h
  | .putA i op kk e, C, X, c, k, y, h => by
    cases y with
    | AugAssign tg o y p =>
      match tg, h with
      | .Subscript (.Name x p1) z p2, h =>
        obtain ⟨h, h5⟩ := and2 (show (decide (op = o) && ckVar C i x && plainE z && ckE C kk z && ckE C e y) = true from h)
        obtain ⟨h, h4⟩ := and2 h
        obtain ⟨h, h3⟩ := and2 h
        obtain ⟨h1, h2⟩ := and2 h
        obtain rfl := of_decide_eq_true h1
        have q := ckVar_of k.toXOk h2
        show PS X _ (liftS c (match augI op with | some f => sPutA i f (semE M kk) (semE M e) | none => fun _ _ => False))
        cases op with
        | Add => exact ls_putA q.1 q.2.1 q.2.2.1 q.2.2.2 (se e k.toXOk y h5) (se kk k.toXOk z h4) ip_add (aug_of h3)
        | Sub => exact ls_putA q.1 q.2.1 q.2.2.1 q.2.2.2 (se e k.toXOk y h5) (se kk k.toXOk z h4) ip_sub (aug_of h3)
        | _ => exact ps_weak ps_never fun D0 σ H ⟨_, _, _, _, w, _⟩ => w.elim
    | _ => cases h
  | .aug i op e, C, X, c, k, y, h => by
    cases y with
    | AugAssign tg o y p =>
      match tg, h with
      | .Name x p1, h =>
        obtain ⟨h, h3⟩ := and2 (show (decide (op = o) && ckLoc C i x && ckE C e y) = true from h)
        obtain ⟨h1, h2⟩ := and2 h
        obtain rfl := of_decide_eq_true h1
        have q := ckLoc_of k.toXOk h2
        obtain ⟨r, r1, r2⟩ := aug_ok (X := X) (c := c) op
        exact ls_aug k.nd q.1 q.2.1 q.2.2 (se e k.toXOk y h3) r1 r2
    | _ => cases h
  | .fld n e, C, X, c, k, y, h => by
    cases y with
    | Assign tgs y p =>
      match tgs, h with
      | [.Attribute (.Name x p1) f p2], h =>
        obtain ⟨h, h4⟩ := and2 (show (decide (f = C.mid n) && ckVar C 0 x && ckE C e y) = true from h)
        obtain ⟨h1, h2⟩ := and2 h
        have ef := of_decide_eq_true h1
        rw [k.mid] at ef
        subst ef
        have q := ckVar_of k.toXOk h2
        exact ls_fld k.K k.kok q.1 q.2.1 q.2.2.1 q.2.2.2 (se e k.toXOk y h4) swap_noA
    | _ => cases h
  | .ret e, C, X, c, k, y, h => by
    cases y with
    | Return o p =>
      cases o with
      | some y => exact ls_ret (se e k.toXOk y h)
      | none => cases h
    | _ => cases h
  | .bad, C, X, c, k, y, h => ps_weak ps_never fun D0 σ H ⟨_, _, _, _, w, _⟩ => False.elim w
  | .par i j a b, C, X, c, k, y, h => by
    cases y with
    | Assign tgs y p =>
      match tgs, y, h with
      | [.Tuple [.Name x px, .Name y py] kt pt], .Tuple [u, v] k2 pt2, h =>
        obtain ⟨h, g3⟩ := and2 (show (parB C i j x px y py u v && ckE C a u && ckE C b v) = true from h)
        obtain ⟨h, g2⟩ := and2 h
        unfold parB at h
        obtain ⟨h, h12⟩ := and2 h
        obtain ⟨h, h11⟩ := and2 h
        obtain ⟨h, h10⟩ := and2 h
        obtain ⟨h, h9⟩ := and2 h
        obtain ⟨h, h8⟩ := and2 h
        obtain ⟨h, h7⟩ := and2 h
        obtain ⟨h, h6⟩ := and2 h
        obtain ⟨h, h5⟩ := and2 h
        obtain ⟨h, h4⟩ := and2 h
        obtain ⟨h, h3⟩ := and2 h
        obtain ⟨h1, h2⟩ := and2 h
        have e1 := of_decide_eq_true h1
        have e2 := of_decide_eq_true h2
        have e5 := of_decide_eq_true h5
        have e6 := of_decide_eq_true h6
        have e7 := of_decide_eq_true h7
        rw [← k.toXOk.N] at e1 e2
        rw [← k.toXOk.sc] at e5 e6 e7
        exact ls_par k.toXOk.calm k.toXOk.nd e1 e2 (of_decide_eq_true h3) e5 e6 (la_cons (se a k.toXOk u g2) (la_cons (se b k.toXOk v g3) la_nil (star_of h10)) (star_of h9)) (par_hw e5 e6 e7 h8 (of_decide_eq_true h4) h9 h10 (by simpa only [Bool.not_eq_true'] using h11) (by simpa only [Bool.not_eq_true'] using h12))
    | _ => cases h
  | .retN, C, X, c, k, y, h => by
    cases y with
    | Return o p =>
      cases o with
      | some y => cases h
      | none => exact ls_retN
    | _ => cases h
  | .iff t a b, C, X, c, k, y, h => by
    cases y with
    | If q xs ys p =>
      obtain ⟨h, h3⟩ := and2 (show (ckT C t q && ckB C a xs && ckB C b ys) = true from h)
      obtain ⟨h1, h2⟩ := and2 h
      exact ls_if (st t k.toXOk q h1) (sb a k xs h2) (sb b k ys h3)
    | _ => cases h
  | .expr e, C, X, c, k, y, h => by
    cases y with
    | Expr y p =>
      obtain ⟨h1, h2⟩ := and2 (show (notComp y && ckE C e y) = true from h)
      exact ls_expr (se e k.toXOk y h2) (swap_no1 h1)
    | _ => cases h
  | .brk, C, X, c, k, y, h => by
    cases y with
    | Break p => exact ls_brk
    | _ => cases h
  | .cnt, C, X, c, k, y, h => by
    cases y with
    | Continue p => exact ls_cnt
    | _ => cases h
  | .pass, C, X, c, k, y, h => by
    cases y with
    | Pass p => exact ls_pass
    | Expr y p =>
      match y, h with
      | .Constant (.str _) _ _, h => exact ls_doc
    | _ => cases h
  | .for g it b, C, X, c, k, y, h => by
    cases y with
    | For tg y body oe p =>
      cases oe with
      | nil =>
        obtain ⟨h, h3⟩ := and2 (show (ckI C tg it y && ckG C g tg && ckB C b body) = true from h)
        obtain ⟨h1, h2⟩ := and2 h
        exact ls_for k.po k.calm (si it k.toXOk tg y h1) (sg g k.toXOk tg h2) (sb b k body h3) (ckI_fold h1)
      | cons => cases h
    | _ => cases h
  | .while t b, C, X, c, k, y, h => by
    cases y with
    | While y body oe p =>
      cases oe with
      | nil =>
        obtain ⟨h1, h2⟩ := and2 (show (ckT C t y && ckB C b body) = true from h)
        exact ls_while k.po (st t k.toXOk y h1) (sb b k body h2)
      | cons => cases h
    | _ => cases h
  | .frz i, C, X, c, k, y, h => by cases y <;> cases h
  | .lend is i e, C, X, c, k, y, h => by
    cases y with
    | Assign tgs y p =>
      match tgs, h with
      | [.Name x xp], h =>
        obtain ⟨h, h4⟩ := and2 (show (notComp y && noSwapT (.Name x xp) y && ckLoc C i x && ckE C e y) = true from h)
        obtain ⟨h, h3⟩ := and2 h
        obtain ⟨h1, h2⟩ := and2 h
        have q := ckLoc_of k.toXOk h3
        show PS X _ (liftS c (sLend M.mem is i (semE M e)))
        rw [← k.toXOk.mem]
        exact ls_lend k.nd q.1 q.2.1 q.2.2 (se e k.toXOk y h4) (swap_no h1) (stores_no h2)
    | _ => cases h
  | .retO i, C, X, c, k, y, h => by
    cases y with
    | Return o p =>
      match o, h with
      | some (.Name x p1), h =>
        have q := ckVar_of k.toXOk (show ckVar C i x = true from h)
        exact ls_retO q.1 q.2.1 q.2.2.1 q.2.2.2
    | _ => cases h
  | .ext i e, C, X, c, k, y, h => by
    cases y with
    | Expr y p =>
      match y, h with
      | .Call (.Attribute (.Name x p1) m p2) [y] [] p3, h =>
        obtain ⟨h, h5⟩ := and2 (show (decide (m = ("extend" : Str)) && ckVar C i x && (p2.endLine == p3.line) && plainE y && ckFr C e y) = true from h)
        obtain ⟨h, h4⟩ := and2 h
        obtain ⟨h, h3⟩ := and2 h
        obtain ⟨h1, h2⟩ := and2 h
        have q := ckVar_of k.toXOk h2
        exact ls_ext (of_decide_eq_true h1) q.1 q.2.1 q.2.2.1 q.2.2.2 (sfr k.toXOk e y h5) rfl h3 (star_of h4)
    | _ => cases h
  | .retF e, C, X, c, k, y, h => by
    cases y with
    | Return o p =>
      match o, h with
      | some y, h => exact ls_retF (sfr k.toXOk e y (show ckFr C e y = true from h))
    | _ => cases h
  | .setF ts e, C, X, c, k, y, h => by
    cases y with
    | Assign tgs y p =>
      match tgs, h with
      | [.Tuple ys kk p1], h =>
        obtain ⟨h, h4⟩ := and2 (show (notComp y && noSwapT (.Tuple ys kk p1) y && ckTs C ts ys && ckE C e y) = true from h)
        obtain ⟨h, h3⟩ := and2 h
        obtain ⟨h1, h2⟩ := and2 h
        have q := sgfs k.toXOk ts ys h3
        exact ls_setF k.toXOk.K k.toXOk.calm (se e k.toXOk y h4) q.1 q.2.1 q.2.2 (swap_no h1) (stores_no h2)
    | _ => cases h
  | .fldP n e, C, X, c, k, y, h => by
    cases y with
    | Assign tgs y p =>
      match tgs, h with
      | [.Attribute (.Name x p1) f p2], h =>
        obtain ⟨h, h4⟩ := and2 (show (decide (f = C.mid n) && ckVar C 0 x && notComp y && ckE C e y) = true from h)
        obtain ⟨h, h3⟩ := and2 h
        exact ls_fldP (se e k.toXOk y h4) (sgf1 k.toXOk (t := (true, n)) h) (swap_no h3) rfl rfl
    | _ => cases h
  | .raise kk f e, C, X, c, k, y, h => by
    cases y with
    | Raise o o2 p =>
      match o, o2, h with
      | some (.Call (.Name x p1) [y] [] p2), none, h =>
        obtain ⟨h, h4⟩ := and2 (show (ckGl C x && decide (C.xr x = some (kk, f)) && plainE y && ckE C e y) = true from h)
        obtain ⟨h, h3⟩ := and2 h
        obtain ⟨h1, h2⟩ := and2 h
        have g := ckGl_of k.toXOk h1
        exact ls_raise k.calm k.K k.tk (k.xrs x kk f (of_decide_eq_true h2)) g.1 g.2.1 (se e k.toXOk y h4) (star_of h3)
    | _ => cases h
  | .try b kk i s, C, X, c, k, y, h => by
    cases y with
    | Try body hs oe fi p =>
      match hs, oe, fi, h with
      | [.ExceptHandler (some (.Name y p1)) (some n) (b₀ :: suite) p2], [], [], h =>
        obtain ⟨h, h7⟩ := and2 (show (ckGl C y && decide (C.cl y = some kk) && decide (C.N[i]? = some n) && decide (C.sc.names.lookup n = some .local) && plainN n && ckXS C n s (b₀ :: suite) && ckB C b body) = true from h)
        obtain ⟨h, h6⟩ := and2 h
        obtain ⟨h, h5⟩ := and2 h
        obtain ⟨h, h4⟩ := and2 h
        obtain ⟨h, h3⟩ := and2 h
        obtain ⟨h1, h2⟩ := and2 h
        have pn := plainN_of h5
        have e3 : X.N[i]? = some n := by rw [k.N]; exact of_decide_eq_true h3
        have e4 : X.env.kindOf n = some .local := by
          have := of_decide_eq_true h4
          rw [← k.sc] at this
          exact this
        exact ls_try k.toXOk k.stk k.frm e3 e4 pn.1 pn.2.1 h1 (of_decide_eq_true h2) h6 fun W pn xe tk po => sb b (k.tr tk po) body h7
    | _ => cases h
theorem sb : ∀ (ss : List IS) {C : Ck} {X : Cx} {c : Ct} (_ : BOk M C X c) (ys : List Stmt), ckB C ss ys = true → PSs X ys (liftS c (semB M ss))
  | [], C, X, c, k, ys, h => by
    cases ys with
    | nil => exact ls_nil
    | cons => cases h
  | s :: r, C, X, c, k, ys, h => by
    have gen : ∀ y ys, ckS C s y = true → ckB C r ys = true → PSs X (y :: ys) (liftS c (semB M (s :: r))) := fun y ys h1 h2 => ls_cons (ss s k y h1) (sb r k ys h2)
    cases s with
    | frz i => exact ls_frz (sb r k ys h)
    | _ =>
      cases ys with
      | nil => cases h
      | cons y ys => exact gen y ys (and2 h).1 (and2 h).2
end
end
end Tr

namespace Tr
open PySem PySem.Spec PyProof.Rows L2

/-! ### a whole program -/
structure FD where
  name : Str
  qual : Str
  st : Stmt
  N : List Str
  np : Nat
  body : List IS
  own : Bool := false
  lam : Bool := false
def FD.ps (d : FD) : List Str := d.N.take d.np
structure Pg where
  fns : List FD
  inis : List (Option FD)
  mt : Nat → Nat → Option Nat
  sig : Sig
  shps : List Shp
  shfs : List Shp
  xs : XSig := {}
  mem : Nat → List Int → Option D := fun _ _ => none
  pt : Nat → Nat → Option Nat := fun _ _ => none
def Pg.shf (p : Pg) (s : Nat) : Option Shp := p.shfs[s]?
def Pg.shp (p : Pg) (s : Nat) : Option Shp := p.shps[s]?
def noSm (p : Pg) : Sm := ⟨fun _ => dNoN, fun _ => dNoN, p.mt, p.sig, p.shp, p.shf, p.xs, p.mem, p.pt, fun _ => dNoN⟩
def semF (M : Sm) : Option FD → List D → WD
  | some d => if d.own = true then (fun ds P E => wFO d.np d.N.length (semB M d.body) ds (fun r => P (.lst r)) E) else wF d.np d.N.length (semB M d.body)
  | none => dNoN
def semIn (M : Sm) (k : Nat) : Option (Option FD) → List D → WD
  | some (some d) => wI k d.np d.N.length (semB M d.body)
  | _ => dNoN
/-- what the functions are, n calls deep -/
def Pg.sm (p : Pg) : Nat → Sm
  | 0 => noSm p
  | 1 => noSm p
  | 2 => ⟨fun f => semF (noSm p) p.fns[f]?, fun _ => dNoN, p.mt, p.sig, p.shp, p.shf, p.xs, p.mem, p.pt, fun _ => dNoN⟩
  | n + 3 => ⟨fun f => semF (p.sm (n + 2)) p.fns[f]?, fun k => semIn (p.sm (n + 1)) k p.inis[k]?, p.mt, p.sig, p.shp, p.shf, p.xs, p.mem, p.pt, (p.sm (n + 2)).sem⟩
theorem Pg.sm_mt (p : Pg) : ∀ n, (p.sm n).mt = p.mt
  | 0 => rfl
  | 1 => rfl
  | 2 => rfl
  | _ + 3 => rfl
theorem Pg.sm_pt (p : Pg) : ∀ n, (p.sm n).pt = p.pt
  | 0 => rfl
  | 1 => rfl
  | 2 => rfl
  | _ + 3 => rfl
theorem Pg.sm_prp (p : Pg) : ∀ n f, (p.sm (n + 1)).prp f = (p.sm n).sem f
  | 0, _ => rfl
  | 1, _ => rfl
  | _ + 2, _ => rfl
theorem Pg.sm_sig (p : Pg) : ∀ n, (p.sm n).sig = p.sig
  | 0 => rfl
  | 1 => rfl
  | 2 => rfl
  | _ + 3 => rfl
theorem Pg.sm_shp (p : Pg) : ∀ n, (p.sm n).shp = p.shp
  | 0 => rfl
  | 1 => rfl
  | 2 => rfl
  | _ + 3 => rfl
theorem Pg.sm_shf (p : Pg) : ∀ n, (p.sm n).shf = p.shf
  | 0 => rfl
  | 1 => rfl
  | 2 => rfl
  | _ + 3 => rfl
theorem Pg.sm_xs (p : Pg) : ∀ n, (p.sm n).xs = p.xs
  | 0 => rfl
  | 1 => rfl
  | 2 => rfl
  | _ + 3 => rfl
theorem Pg.sm_mem (p : Pg) : ∀ n, (p.sm n).mem = p.mem
  | 0 => rfl
  | 1 => rfl
  | 2 => rfl
  | _ + 3 => rfl
theorem Pg.sm_sem (p : Pg) : ∀ n f, (p.sm (n + 2)).sem f = semF (p.sm (n + 1)) p.fns[f]?
  | 0, _ => rfl
  | _ + 1, _ => rfl
theorem Pg.sm_ini (p : Pg) (n k : Nat) : (p.sm (n + 3)).ini k = semIn (p.sm (n + 1)) k p.inis[k]? := rfl
/-- the names of a module -/
structure Nm where
  fn : Str → Option Nat
  ma : Str → Option Nat
  cl : Str → Option Nat
  con : Str → Option D
  mid : Nat → Str
  blts : List Str
  libs : List Str
  maK : Str → Option Nat
  shp : Nat → Option Shp
  fnK : Str → Option Nat
  shf : Nat → Option Shp
  xr : Str → Option (Nat × Nat) := fun _ => none
  ow : Nat → Bool := fun _ => false
def Nm.ck (m : Nm) (d : FD) : Ck := ⟨d.N, defScope d.st, m.fn, m.ma, m.cl, m.con, m.mid, fun _ => true, m.blts, m.libs, m.maK, m.shp, m.fnK, m.shf, m.xr, m.ow, d.lam⟩
def FD.ok (m : Nm) (d : FD) : Bool := C8.scC d.N d.ps (defScope d.st) && decide (d.np ≤ d.N.length) && ckB (m.ck d) d.body (defBody d.st)

/-- a def, with or without defaults -/
structure FunA (K : PySem.W.Frag) (x qual : Str) (st : Stmt) (f : Addr) (fd : FuncData) : Prop where
  ex : ∃ oc od dV kV doc pm an cdv ct osl, fd = PySem.W.fnOf x qual (defArgs st) (defBody st) (defScope st) dV kV doc pm an cdv ct ∧ K.lookup f = some ⟨oc, od, .func fd, osl⟩ ∧ PySem.W.codeIn K cdv qual = true
  kp : PySem.W.keepIn K (.ref f) = true
theorem funA_mk {K : PySem.W.Frag} {x qual : Str} {st : Stmt} {f : Addr} {oc : Value} {od an : Option Addr} {osl : Array (Option Value)} {dV kV doc pm cdv ct : Value} (l : K.lookup f = some ⟨oc, od, .func (PySem.W.fnOf x qual (defArgs st) (defBody st) (defScope st) dV kV doc pm an cdv ct), osl⟩)
    (hc : PySem.W.codeIn K cdv qual = true) (hk : PySem.W.keepIn K (.ref f) = true) : FunA K x qual st f (PySem.W.fnOf x qual (defArgs st) (defBody st) (defScope st) dV kV doc pm an cdv ct) := ⟨⟨_, _, _, _, _, _, _, _, _, _, rfl, l, hc⟩, hk⟩
/-- what the written part says of the program -/
structure PgOk (P : Program) (p : Pg) (m : Nm) (K : PySem.W.Frag) (T : Tab) (mg : Str → Option Value) (fa ia : Nat → Addr) (fd ifd : Nat → FuncData) : Prop where
  fn : ∀ f d, p.fns[f]? = some d → FunA K d.name d.qual d.st (fa f) (fd f) ∧ d.ok m = true
  ini : ∀ k d, p.inis[k]? = some (some d) → FunA K d.name d.qual d.st (ia k) (ifd k) ∧ d.ok m = true ∧ Mk K (T.cad k) (ia k)
  fnN : ∀ x f, m.fn x = some f → mg x = some (.ref (fa f)) ∧ ∃ d, p.fns[f]? = some d ∧ Binds K (fd f) d.ps []
  fnK : ∀ x f, m.fnK x = some f → mg x = some (.ref (fa f))
  shfq : m.shf = p.shf
  shfk : ∀ s sh, p.shf s = some sh → ∃ d, p.fns[sh.k]? = some d ∧ KfOk K T (fd sh.k) d.ps sh
  maN : ∀ x k, m.ma x = some k → mg x = some (.ref (T.cad k)) ∧ ∃ d, p.inis[k]? = some (some d) ∧ Binds K (ifd k) d.ps []
  maK : ∀ x k, m.maK x = some k → mg x = some (.ref (T.cad k))
  shpq : m.shp = p.shp
  shpk : ∀ s sh, p.shp s = some sh → ∃ d, p.inis[sh.k]? = some (some d) ∧ KbOk K T (ifd sh.k) d.ps sh
  clN : ∀ x k, m.cl x = some k → mg x = some (.ref (T.cad k))
  mt : ∀ k i f, p.mt k i = some f → k < p.sig.fld.length ∧ Meth K (T.cad k) (T.nm i) (fa f) ∧ ∃ d, p.fns[f]? = some d ∧ Binds K (fd f) d.ps []
  pt : ∀ k i f, p.pt k i = some f → k < p.sig.fld.length ∧ (∃ pp, PropOf K (T.cad k) (T.nm i) pp (fa f)) ∧ ∃ d, p.fns[f]? = some d ∧ Binds K (fd f) d.ps []
  kok : KOk K T p.sig
  mid : ∀ n, m.mid n = T.nm n
  con : ∀ x d, m.con x = some d → ∃ v u, mg x = some u ∧ RelV v u ∧ R K T (fun _ => none) d v
  blt : ∀ x, m.blts.contains x = true → mg x = none
  libq : m.libs.contains "isqrt" = true → mg "isqrt" = some (.builtin "math.isqrt")
  libg : m.libs.contains "gcd" = true → mg "gcd" = some (.builtin "math.gcd")
  xok : XKOk K T p.xs
  mem : T.mem = p.mem
  pr : T.pr = P
  owq : ∀ f d, m.ow f = true → p.fns[f]? = some d → d.own = true
  xrs : ∀ x k f, m.xr x = some (k, f) → mg x = some (.ref (T.cad k)) ∧ ∃ (fI : Addr) (a : Str), PySem.TrX.XCls K P mg (T.cad k) fI a (T.nm f)

section
variable {P : Program} {w : World} {K : PySem.W.Frag} {T : Tab} {mg : Str → Option Value} {base : Heap} {p : Pg} {m : Nm} {fa ia : Nat → Addr} {fd ifd : Nat → FuncData}
theorem FD.ok_of {d : FD} (h : d.ok m = true) : FnScope d.N d.ps (defScope d.st) ∧ d.np ≤ d.N.length ∧ ckB (m.ck d) d.body (defBody d.st) = true := by
  unfold FD.ok at h
  obtain ⟨h, h3⟩ := and2 h
  obtain ⟨h1, h2⟩ := and2 h
  exact ⟨C8.fnScope_by h1, of_decide_eq_true h2, h3⟩
theorem FD.ps_len {d : FD} (h : d.np ≤ d.N.length) : d.ps.length = d.np := by unfold FD.ps; rw [List.length_take]; omega
theorem semF_own {M : Sm} {d : FD} (h : d.own = true) : semF M (some d) = fun ds P E => wFO d.np d.N.length (semB M d.body) ds (fun r => P (.lst r)) E := by
  unfold semF
  exact if_pos h
theorem semF_not {M : Sm} {d : FD} (h : ¬ d.own = true) : semF M (some d) = wF d.np d.N.length (semB M d.body) := by
  unfold semF
  exact if_neg h
theorem semF_len {M : Sm} {d : FD} {ds : List D} {P : D → Prop} {E : Exc → Prop} (h : semF M (some d) ds P E) : ds.length = d.np := by
  by_cases hw : d.own = true
  · rw [semF_own hw] at h
    exact h.1
  · rw [semF_not hw] at h
    exact h.1
theorem semI_len {M : Sm} {k : Nat} {d : FD} {ds : List D} {P : D → Prop} {E : Exc → Prop} (h : semIn M k (some (some d)) ds P E) : ds.length + 1 = d.np := h.1
theorem fn_no {k : Nat} {f : Addr} {fd : FuncData} {ps : List Str} {n : Nat} : FnOk P w K mg base (L2.CX P w) k f fd ps (spF K T n dNoN) :=
  ⟨fun _ _ _ _ h => by obtain ⟨_, _, _, _, _, _, _, h, _⟩ := h; exact False.elim h, fun _ _ _ _ _ _ _ _ _ _ _ _ _ h => by obtain ⟨_, _, _, _, _, _, _, h, _⟩ := h; exact False.elim h⟩
theorem in_no {k : Nat} {f : Addr} {fd : FuncData} {ps : List Str} {n c : Nat} : FnOk P w K mg base (L2.CX P w) k f fd ps (spI K T n c dNoN) :=
  ⟨fun _ _ _ _ h => by obtain ⟨_, _, _, _, _, _, _, _, _, _, _, _, _, h, _⟩ := h; exact False.elim h, fun _ _ _ _ _ _ _ _ _ _ _ _ _ h => by obtain ⟨_, _, _, _, _, _, _, _, _, _, _, _, _, h, _⟩ := h; exact False.elim h⟩
theorem fnO_no {k : Nat} {f : Addr} {fd : FuncData} {ps : List Str} {n : Nat} : FnOk P w K mg base (L2.CX P w) k f fd ps (spO K T n fun _ _ _ => False) :=
  ⟨fun _ _ _ _ h => by obtain ⟨_, _, _, _, _, _, _, h, _⟩ := h; exact False.elim h, fun _ _ _ _ _ _ _ _ _ _ _ _ _ h => by obtain ⟨_, _, _, _, _, _, _, h, _⟩ := h; exact False.elim h⟩
/-- what is known of the defs that return lists of their own -/
def OwnOk (P : Program) (w : World) (K : PySem.W.Frag) (T : Tab) (mg : Str → Option Value) (base : Heap) (p : Pg) (fa : Nat → Addr) (fd : Nat → FuncData) (n : Nat) : Prop :=
  ∀ f d, p.fns[f]? = some d → d.own = true → ∃ w' : WO, (p.sm n).sem f = (fun ds P E => w' ds (fun r => P (.lst r)) E) ∧ FnOk P w K mg base (L2.CX P w) n (fa f) (fd f) d.ps (spO K T d.ps.length w') ∧ ∀ ds P E, w' ds P E → ds.length = d.ps.length
/-- what is known where lambdas are made -/
structure LamOk (K : PySem.W.Frag) (T : Tab) (mg : Str → Option Value) (base : Heap) (p : Pg) (fd : Nat → FuncData) : Prop where
  fn : ∀ (f : Nat) (d : FD), p.fns[f]? = some d → d.lam = true → ∃ (cd P : Addr) (i : Nat), (fd f).code = .ref cd ∧ LamX.TabB base mg cd P ∧ (P, i) ∈ T.tbs ∧ i % 4 = 1 ∧ T.tbq i = d.qual ++ ".<locals>." ++ "<lambda>"
  ini : ∀ (k : Nat) (d : FD), p.inis[k]? = some (some d) → d.lam = false
theorem LamOk.none {K : PySem.W.Frag} {T : Tab} {mg : Str → Option Value} {base : Heap} {p : Pg} {fd : Nat → FuncData} (h : (p.fns.all fun d => !d.lam) = true) (h2 : (p.inis.all fun d => match d with | some d => !d.lam | _ => true) = true) : LamOk K T mg base p fd := by
  refine ⟨fun f d e hl => ?_, fun k d e => ?_⟩
  · have := List.all_eq_true.mp h d (List.mem_of_getElem? e)
    rw [hl] at this
    cases this
  · have := List.all_eq_true.mp h2 (some d) (List.mem_of_getElem? e)
    simpa using this
theorem LamOk.one {K : PySem.W.Frag} {T : Tab} {mg : Str → Option Value} {base : Heap} {p : Pg} {fd : Nat → FuncData} {ix : Nat} {d0 : FD} {cd P : Addr} (h : ((p.fns.map fun d => d.lam).zipIdx.all fun x => !x.1 || x.2 == ix) = true) (h2 : (p.inis.all fun d => match d with | some d => !d.lam | _ => true) = true)
    (e0 : p.fns[ix]? = some d0) (hc : (fd ix).code = .ref cd) (hB : LamX.TabB base mg cd P) (hm : (P, 1) ∈ T.tbs) (hq : T.tbq 1 = d0.qual ++ ".<locals>." ++ "<lambda>") : LamOk K T mg base p fd := by
 refine ⟨fun f d e hl => ?_, fun k d e => ?_⟩
 · have hf : f = ix := by
    have hm : (true, f) ∈ (p.fns.map fun d => d.lam).zipIdx := by
      rw [List.mem_zipIdx_iff_getElem?, List.getElem?_map, e]
      exact congrArg some hl
    have := List.all_eq_true.mp h _ hm
    simpa using this
   subst hf
   rw [e0] at e
   cases e
   exact ⟨cd, P, 1, hc, hB, hm, rfl, hq⟩
 · have := List.all_eq_true.mp h2 (some d) (List.mem_of_getElem? e)
   simpa using this
/-- the context of a body -/
theorem body_ok (O : PgOk P p m K T mg fa ia fd ifd) {n : Nat} {d : FD} {A : Around} {outer : List Env} {s : Shared} {H : Hp} {E : XK} {F0 B : Hp} {sf : Addr} {f : Addr} {cdv : Value}
    (hf : ∀ f d, p.fns[f]? = some d → FnOk P w K mg base (L2.CX P w) (n + 1) (fa f) (fd f) d.ps (spF K T d.ps.length ((p.sm (n + 1)).sem f)))
    (hi : ∀ k d, p.inis[k]? = some (some d) → FnOk P w K mg base (L2.CX P w) n (ia k) (ifd k) d.ps (spI K T d.ps.length k ((p.sm (n + 1)).ini k)))
    (hq : ∀ f d, p.fns[f]? = some d → FnOk P w K mg base (L2.CX P w) n (fa f) (fd f) d.ps (spF K T d.ps.length ((p.sm n).sem f)))
    (ho : OwnOk P w K T mg base p fa fd (n + 1)) (hw : T.wd = w) (hd : d.ok m = true)
    (hlam : d.lam = true → ∃ (cd P : Addr) (i : Nat), cdv = .ref cd ∧ LamX.TabB base mg cd P ∧ (P, i) ∈ T.tbs ∧ i % 4 = 1 ∧ T.tbq i = d.qual ++ ".<locals>." ++ "<lambda>") (hr : Room (n + 1) (A.deeper (envOfC d.qual (defScope d.st) s.heap.objs.size f cdv))) :
    BOk (p.sm (n + 1)) (m.ck d) (cxOf (L2.CX P w) P w K mg base d.N d.qual (defScope d.st) f cdv A outer s H E) ⟨K, T, F0, B, fun cls dx _ H' => E cls dx H', sf⟩ := by
  obtain ⟨S, hn, _⟩ := FD.ok_of hd
  refine ⟨⟨rfl, rfl, rfl, S.nd, rfl, takes_of rfl rfl rfl rfl, hr.units, by rw [p.sm_sig]; exact O.kok, O.mid, fun _ _ => rfl, fun x g hx => ?_, fun x k hx => ?_, fun k i g hx => ?_, fun k i g hx => ?_, O.clN, O.con, O.blt, O.libq, O.libg, by rw [p.sm_shp]; exact O.shpq, fun x s sh hs hx => ?_, by rw [p.sm_shf]; exact O.shfq, fun x s sh hs hx => ?_, fun x k g hx => ?_, by rw [p.sm_xs]; exact O.xok, by rw [p.sm_mem]; exact O.mem, ⟨O.pr.symm, hw.symm⟩, fun hl => ?_, fun x g hw hx => ?_⟩, passes_of rfl, rfl, rfl⟩
  · obtain ⟨h1, d2, e, b⟩ := O.fnN x g hx
    obtain ⟨Fu, ok⟩ := O.fn g d2 e
    obtain ⟨S2, hn2, _⟩ := FD.ok_of ok
    refine ⟨n + 1, fa g, fd g, d2.ps, hf g d2 e, fun ds P E h => ?_, hr, h1, Fu.kp, b⟩
    cases n with
    | zero => exact False.elim h
    | succ n =>
      rw [p.sm_sem, e] at h
      rw [FD.ps_len hn2]
      exact semF_len h
  · obtain ⟨h1, d2, e, b⟩ := O.maN x k hx
    obtain ⟨Fu, ok, mk⟩ := O.ini k d2 e
    obtain ⟨S2, hn2, _⟩ := FD.ok_of ok
    refine ⟨n, ia k, ifd k, d2.ps, mk, hi k d2 e, fun ds P E h => ?_, hr, h1, b⟩
    match n, h with
    | 0, h => exact False.elim h
    | 1, h => exact False.elim h
    | n + 2, h =>
      rw [p.sm_ini, e] at h
      rw [FD.ps_len hn2]
      exact semI_len h
  · rw [p.sm_mt] at hx
    obtain ⟨h0, h1, d2, e, b⟩ := O.mt k i g hx
    obtain ⟨Fu, ok⟩ := O.fn g d2 e
    obtain ⟨S2, hn2, _⟩ := FD.ok_of ok
    refine ⟨fa g, fd g, d2.ps, n + 1, O.kok.cls k h0, h1, hf g d2 e, hr, b, fun ds P E h => ?_⟩
    cases n with
    | zero => exact False.elim h
    | succ n =>
      rw [p.sm_sem, e] at h
      rw [FD.ps_len hn2]
      exact semF_len h
  · rw [p.sm_pt] at hx
    obtain ⟨h0, ⟨pp, h1⟩, d2, e, b⟩ := O.pt k i g hx
    obtain ⟨Fu, ok⟩ := O.fn g d2 e
    obtain ⟨S2, hn2, _⟩ := FD.ok_of ok
    rw [p.sm_prp]
    refine ⟨fa g, pp, fd g, d2.ps, n, O.kok.cls k h0, h1, hq g d2 e, hr, b, fun ds P E h => ?_⟩
    match n, h with
    | 0, h => exact False.elim h
    | 1, h => exact False.elim h
    | n + 2, h =>
      rw [p.sm_sem, e] at h
      rw [FD.ps_len hn2]
      exact semF_len h
  · have hs : p.shp s = some sh := by rw [← O.shpq]; exact hs
    obtain ⟨d2, e, b⟩ := O.shpk s sh hs
    have h1 := O.maK x sh.k hx
    obtain ⟨Fu, ok, mk⟩ := O.ini sh.k d2 e
    obtain ⟨S2, hn2, _⟩ := FD.ok_of ok
    refine ⟨n, ia sh.k, ifd sh.k, d2.ps, mk, hi sh.k d2 e, fun ds P E h => ?_, hr, h1, b⟩
    match n, h with
    | 0, h => exact False.elim h
    | 1, h => exact False.elim h
    | n + 2, h =>
      rw [p.sm_ini, e] at h
      rw [FD.ps_len hn2]
      exact semI_len h
  · have hs : p.shf s = some sh := by rw [← O.shfq]; exact hs
    obtain ⟨d2, e, b⟩ := O.shfk s sh hs
    have h1 := O.fnK x sh.k hx
    obtain ⟨Fu, ok⟩ := O.fn sh.k d2 e
    obtain ⟨S2, hn2, _⟩ := FD.ok_of ok
    refine ⟨n + 1, fa sh.k, fd sh.k, d2.ps, hf sh.k d2 e, fun ds P E h => ?_, hr, h1, Fu.kp, b⟩
    cases n with
    | zero => exact False.elim h
    | succ n =>
      rw [p.sm_sem, e] at h
      rw [FD.ps_len hn2]
      exact semF_len h
  · obtain ⟨h1, fI, a, T⟩ := O.xrs x k g hx
    exact ⟨fI, a, n + 1, T, hr, by omega, h1⟩
  · obtain ⟨cd, Pt, i, e1, e2, e3, e4, e5⟩ := hlam hl
    exact ⟨cd, Pt, i, e1, e2, e3, e4, e5, hr.mono (by omega)⟩
  · obtain ⟨h1, d2, e, b⟩ := O.fnN x g hx
    obtain ⟨Fu, ok⟩ := O.fn g d2 e
    obtain ⟨w', ew, Fo, hl⟩ := ho g d2 e (O.owq g d2 hw e)
    exact ⟨w', n + 1, fa g, fd g, d2.ps, ew, Fo, hl, hr, h1, Fu.kp, b⟩
/-- THE PROGRAM: every def keeps its promise -/
theorem all_ok3 (O : PgOk P p m K T mg fa ia fd ifd) (L : LamOk K T mg base p fd) (hww : T.wd = w) : ∀ n : Nat,
    (∀ f d, p.fns[f]? = some d → FnOk P w K mg base (L2.CX P w) n (fa f) (fd f) d.ps (spF K T d.ps.length ((p.sm n).sem f))) ∧
    (∀ k d, p.inis[k]? = some (some d) → FnOk P w K mg base (L2.CX P w) n (ia k) (ifd k) d.ps (spI K T d.ps.length k ((p.sm (n + 1)).ini k))) ∧
    OwnOk P w K T mg base p fa fd n
  | 0 => ⟨fun _ _ _ => fn_no, fun _ _ _ => in_no, fun _ _ _ _ => ⟨fun _ _ _ => False, rfl, fnO_no, fun _ _ _ h => h.elim⟩⟩
  | 1 => ⟨fun _ _ _ => fn_no, fun _ _ _ => in_no, fun _ _ _ _ => ⟨fun _ _ _ => False, rfl, fnO_no, fun _ _ _ h => h.elim⟩⟩
  | n + 2 => by
    have h1 := (all_ok3 O L hww (n + 1)).1
    have ho := (all_ok3 O L hww (n + 1)).2.2
    have h0 := (all_ok3 O L hww n).2.1
    have hq := (all_ok3 O L hww n).1
    have own : ∀ f d, p.fns[f]? = some d → d.own = true → FnOk P w K mg base (L2.CX P w) (n + 2) (fa f) (fd f) d.ps (spO K T d.ps.length (wFO d.np d.N.length (semB (p.sm (n + 1)) d.body))) := fun f d e hw => by
      obtain ⟨Fu, ok⟩ := O.fn f d e
      obtain ⟨S2, hn2, hc⟩ := FD.ok_of ok
      obtain ⟨oc, od, dV, kV, doc, pm, an, cdv, ct, osl, rfl', lk, hcd⟩ := Fu.ex
      have hlam := L.fn f d e
      rw [rfl'] at hlam
      rw [rfl']
      rw [rfl'] at lk
      have hl := FD.ps_len hn2
      show FnOk P w K mg base (L2.CX P w) (n + 1 + 1) (fa f) _ d.ps (spO K T d.ps.length (wFO d.np d.N.length (semB (p.sm (n + 1)) d.body)))
      rw [← hl]
      exact fn_treeO lk hcd S2 (by rw [hl]; exact hn2) fun A outer s H E F0 B hr => sb d.body (body_ok O h1 h0 hq ho hww ok hlam hr) _ hc
    refine ⟨fun f d e => ?_, fun k d e => ?_, fun f d e hw => ?_⟩
    · by_cases hw : d.own = true
      · rw [p.sm_sem, e, semF_own hw]
        exact (own f d e hw).imp fun vs H Q E h => spO_of h
      obtain ⟨Fu, ok⟩ := O.fn f d e
      obtain ⟨S2, hn2, hc⟩ := FD.ok_of ok
      obtain ⟨oc, od, dV, kV, doc, pm, an, cdv, ct, osl, rfl', lk, hcd⟩ := Fu.ex
      have hlam := L.fn f d e
      rw [rfl'] at hlam
      rw [p.sm_sem, e, rfl', semF_not hw]
      rw [rfl'] at lk
      have hl := FD.ps_len hn2
      show FnOk P w K mg base (L2.CX P w) (n + 1 + 1) (fa f) _ d.ps (spF K T d.ps.length (wF d.np d.N.length (semB (p.sm (n + 1)) d.body)))
      rw [← hl]
      exact fn_tree lk hcd S2 (by rw [hl]; exact hn2) fun A outer s H E F0 B hr => sb d.body (body_ok O h1 h0 hq ho hww ok hlam hr) _ hc
    · obtain ⟨Fu, ok, mk⟩ := O.ini k d e
      obtain ⟨S2, hn2, hc⟩ := FD.ok_of ok
      obtain ⟨oc, od, dV, kV, doc, pm, an, cdv, ct, osl, rfl', lk, hcd⟩ := Fu.ex
      have hlam := L.ini k d e
      rw [p.sm_ini, e, rfl']
      rw [rfl'] at lk
      have hl := FD.ps_len hn2
      show FnOk P w K mg base (L2.CX P w) (n + 1 + 1) (ia k) _ d.ps (spI K T d.ps.length k (wI k d.np d.N.length (semB (p.sm (n + 1)) d.body)))
      rw [← hl]
      exact fn_init lk hcd S2 (by rw [hl]; exact hn2) fun A outer s H E F0 B sf hr => sb d.body (body_ok O h1 h0 hq ho hww ok (fun z => by rw [hlam] at z; cases z) hr) _ hc
    · refine ⟨wFO d.np d.N.length (semB (p.sm (n + 1)) d.body), by rw [p.sm_sem, e, semF_own hw], own f d e hw, fun ds P E h => ?_⟩
      obtain ⟨Fu, ok⟩ := O.fn f d e
      obtain ⟨S2, hn2, hc⟩ := FD.ok_of ok
      rw [FD.ps_len hn2]
      exact h.1
theorem all_ok (O : PgOk P p m K T mg fa ia fd ifd) (L : LamOk K T mg base p fd) (hww : T.wd = w) (n : Nat) :
    (∀ f d, p.fns[f]? = some d → FnOk P w K mg base (L2.CX P w) n (fa f) (fd f) d.ps (spF K T d.ps.length ((p.sm n).sem f))) ∧
    (∀ k d, p.inis[k]? = some (some d) → FnOk P w K mg base (L2.CX P w) n (ia k) (ifd k) d.ps (spI K T d.ps.length k ((p.sm (n + 1)).ini k))) := ⟨(all_ok3 O L hww n).1, (all_ok3 O L hww n).2.1⟩
end
end Tr

namespace Tr
open PySem PySem.Spec PyProof.Rows L2

/-! ### facts over lists -/
def AllIxF {α : Type} (P : Nat → α → Prop) : Nat → List α → Prop
  | _, [] => True
  | k, d :: r => P k d ∧ AllIxF P (k + 1) r
theorem AllIxF.at {α : Type} {P : Nat → α → Prop} : ∀ {l : List α} {k : Nat}, AllIxF P k l → ∀ f d, l[f]? = some d → P (k + f) d
  | [], _, _, f, d, e => by rw [List.getElem?_nil] at e; cases e
  | x :: r, k, h, 0, d, e => by
    have e' : x = d := Option.some.inj e
    subst e'
    exact h.1
  | x :: r, k, h, f + 1, d, e => by
    have := AllIxF.at (l := r) h.2 f d e
    rw [show k + (f + 1) = k + 1 + f by omega]
    exact this
theorem AllIx.go {P : Nat → FD → Prop} {l : List FD} (h : AllIxF P 0 l) : ∀ f d, l[f]? = some d → P f d := fun f d e => by
  have := h.at f d e
  rwa [Nat.zero_add] at this
def OptP (P : Nat → FD → Prop) (k : Nat) : Option FD → Prop
  | some d => P k d
  | none => True
theorem AllIx.go' {P : Nat → FD → Prop} {l : List (Option FD)} (h : AllIxF (OptP P) 0 l) : ∀ f d, l[f]? = some (some d) → P f d := fun f d e => by
  have := h.at f (some d) e
  rw [Nat.zero_add] at this
  exact this
def AllPF {α β : Type} (P : α → β → Prop) : List (α × β) → Prop
  | [] => True
  | d :: r => P d.1 d.2 ∧ AllPF P r
theorem AllP.go {α β : Type} [BEq α] [LawfulBEq α] {Q : α → β → Prop} : ∀ {T : List (α × β)}, AllPF Q T → ∀ x y, T.lookup x = some y → Q x y
  | [], _, x, y, e => by cases e
  | (a, b) :: r, h, x, y, e => by
    unfold List.lookup at e
    split at e
    · rename_i q
      have q' := eq_of_beq q
      subst q'
      cases e
      exact h.1
    · exact AllP.go h.2 x y e
def AllSF (P : Str → Prop) : List Str → Prop
  | [] => True
  | d :: r => P d ∧ AllSF P r
theorem AllS.go {P : Str → Prop} : ∀ {l : List Str}, AllSF P l → ∀ x, l.contains x = true → P x
  | [], _, x, e => by cases e
  | a :: r, h, x, e => by
    rw [List.contains_cons] at e
    rcases (Bool.or_eq_true _ _).mp e with q | q
    · have q' := eq_of_beq q
      subst q'
      exact h.1
    · exact AllS.go h.2 x q
def AllLtF {α : Type} (P : Nat → Prop) : Nat → List α → Prop
  | _, [] => True
  | k, _ :: r => P k ∧ AllLtF P (k + 1) r
theorem AllLtF.at {α : Type} {P : Nat → Prop} : ∀ {l : List α} {k : Nat}, AllLtF P k l → ∀ i, i < l.length → P (k + i)
  | [], _, _, i, e => by cases e
  | _ :: r, k, h, 0, _ => h.1
  | _ :: r, k, h, i + 1, e => by
    rw [show k + (i + 1) = k + 1 + i by omega]
    exact AllLtF.at (l := r) h.2 i (by simpa using e)
theorem AllLt.go {α : Type} {Q : Nat → Prop} {l : List α} (h : AllLtF Q 0 l) : ∀ i, i < l.length → Q i := fun i e => by
  have := h.at i e
  rwa [Nat.zero_add] at this
def AllMF (P : String → Prop) : List String → Prop
  | [] => True
  | d :: r => P d ∧ AllMF P r
theorem AllM.go {P : String → Prop} : ∀ {l : List String}, AllMF P l → ∀ t ∈ l, P t
  | [], _, t, e => by cases e
  | a :: r, h, t, e => by
    rcases List.mem_cons.mp e with q | q
    · subst q; exact h.1
    · exact AllM.go h.2 t q
def AllNF (P : Nat → Prop) : List Nat → Prop
  | [] => True
  | d :: r => P d ∧ AllNF P r
theorem AllNF.at {P : Nat → Prop} : ∀ {l : List Nat}, AllNF P l → ∀ n, l.contains n = true → P n
  | [], _, x, e => by cases e
  | a :: r, h, x, e => by
    rw [List.contains_cons] at e
    rcases (Bool.or_eq_true _ _).mp e with q | q
    · have q' := eq_of_beq q
      subst q'
      exact h.1
    · exact AllNF.at h.2 x q
theorem AllFld.go {Q : Nat → Nat → Prop} {l : List (List Nat)} (h : AllIxF (fun k ns => AllNF (Q k) ns) 0 l) : ∀ k n, (l.getD k []).contains n = true → Q k n := fun k n e => by
  rw [List.getD_eq_getElem?_getD] at e
  cases q : l[k]? with
  | none => rw [q] at e; cases e
  | some ns =>
    rw [q] at e
    have := h.at k ns q
    rw [Nat.zero_add] at this
    exact this.at n e

/-! ### names by number -/
def mkNm (l : List Str) (i : Nat) : Str := match l[i]? with
  | some s => s
  | none => ⟨(List.replicate (i + 1) 35).toArray⟩
def nmOk (l : List Str) : Bool := decide l.Nodup && l.all fun s => !(s.cps[0]? == some 35)
theorem mkNm_inj {l : List Str} (h : nmOk l = true) : ∀ i j, mkNm l i = mkNm l j → i = j := by
  unfold nmOk at h
  obtain ⟨h1, h2⟩ := and2 h
  have nd := of_decide_eq_true h1
  have no : ∀ (i j : Nat) (s : Str), l[i]? = some s → s ≠ ⟨(List.replicate (j + 1) 35).toArray⟩ := fun i j s e z => by
    have hs := List.all_eq_true.mp h2 s (List.mem_of_getElem? e)
    subst z
    rw [List.replicate_succ] at hs
    revert hs
    simp
  intro i j e
  unfold mkNm at e
  split at e
  · rename_i s es
    split at e
    · rename_i t et
      subst e
      obtain ⟨hi, e1⟩ := List.getElem?_eq_some_iff.mp es
      obtain ⟨hj, e2⟩ := List.getElem?_eq_some_iff.mp et
      have pw := List.pairwise_iff_getElem.mp nd
      rcases Nat.lt_trichotomy i j with q | q | q
      · exact absurd (e1.trans e2.symm) (pw i j hi hj q)
      · exact q
      · exact absurd (e2.trans e1.symm) (pw j i hj hi q)
    · exact absurd e (no _ _ _ es)
  · split at e
    · rename_i t et
      exact absurd e.symm (no _ _ _ et)
    · have e1 := congrArg (fun s : Str => s.cps.size) e
      simp at e1
      exact e1
theorem KOk.none {K : PySem.W.Frag} {T : Tab} {s : Sig} (inj : ∀ i j, T.nm i = T.nm j → i = j) (h : s.fld = []) (hn : PySem.W.specialIn K (.builtin "object.__class__") "__get__" = some (some (.builtin "getset_descriptor.__get__"))) (htk : PySem.W.takesIn K (.builtin "object.__class__") = some true) : KOk K T s where
  inj := inj
  cls := fun k z => by rw [h] at z; cases z
  na := fun k n z => by rw [h] at z; cases z
  ha := fun k z => by rw [h] at z; cases z
  hn := hn
  htk := htk
  hm := fun k z => by rw [h] at z; cases z
  kit := fun k _ z => by rw [h] at z; cases z
  kit0 := fun k z => by rw [h] at z; cases z
  kit1 := fun k z => by rw [h] at z; cases z

theorem cx_no {P : Program} {w : World} {o : List Env} {H : Hp} {s s' : Shared} {u : Value} (h : L2.CX P w o H s (fun _ _ _ => False) u s') : False := by
  obtain ⟨_, _, _, _, _, _, _, _, _, _, _, _, z⟩ := h
  exact z
/-- the top: the tables are marked -/
def topF (tbs : List (Addr × Nat)) (a : Addr) (u : Option HO) : Hp := fun b => if b = a ∧ u ≠ none then u else (tbs.lookup b).map mkr
theorem lookup_mem {l : List (Addr × Nat)} {b : Addr} {i : Nat} (h : l.lookup b = some i) : (b, i) ∈ l := by
  induction l with
  | nil => cases h
  | cons x r ih =>
    obtain ⟨y, j⟩ := x
    rw [List.lookup_cons] at h
    split at h
    · rename_i q
      have := eq_of_beq q
      subst this
      cases h
      exact List.mem_cons_self
    · exact List.mem_cons_of_mem _ (ih h)
theorem top_sub {K : PySem.W.Frag} {T : Tab} {H : Hp} {a : Addr} {u : Option HO} (hu : ∀ z, u = some z → H a = some z ∧ (∀ i, z ≠ mkr i) ∧ ∀ ps, z ≠ .tbl ps) (hN : ∀ q ∈ T.tbs, T.tbs.lookup q.1 = some q.2 ∧ q.2 % 4 = 1) (hT : ∀ q ∈ T.tbs, H q.1 = some (.tbl #[])) : SubC K T (topF T.tbs a u) H := by
  have at_ : ∀ b z, topF T.tbs a u b = some z → (b = a ∧ u = some z) ∨ ∃ i, (b, i) ∈ T.tbs ∧ z = mkr i := fun b z e => by
    unfold topF at e
    split at e
    · rename_i q; exact .inl ⟨q.1, e⟩
    · cases q : T.tbs.lookup b with
      | none => rw [q] at e; cases e
      | some i => rw [q] at e; cases e; exact .inr ⟨i, lookup_mem q, rfl⟩
  refine ⟨⟨fun b z e n => ?_, fun b e => ?_⟩, ⟨fun b i e => ?_, fun q hq => ?_⟩⟩
  · rcases at_ b z e with ⟨rfl, q⟩ | ⟨i, _, q⟩
    · exact (hu z q).1
    · exact absurd q (n i)
  · cases q : topF T.tbs a u b with
    | none => rfl
    | some z =>
      rcases at_ b z q with ⟨q1, q2⟩ | ⟨i, hm, _⟩
      · rw [q1, (hu z q2).1] at e; cases e
      · have := hT _ hm
        rw [e] at this; cases this
  · rcases at_ b _ e with ⟨rfl, q⟩ | ⟨j, hm, q⟩
    · exact absurd rfl ((hu _ q).2.1 i)
    · have := mkr_inj q
      subst this
      exact ⟨_, hT _ hm, (hN _ hm).2, hm, trivial, fun pos cv h => by
        have z : codeAmong pos [] = some cv := h
        simp [codeAmong] at z⟩
  · unfold topF
    have : ¬ (q.1 = a ∧ u ≠ none) := fun ⟨e, n⟩ => by
      cases q0 : u with
      | none => exact n q0
      | some z =>
        have h1 := (hu z q0).1
        rw [← e, hT q hq] at h1
        exact (hu z q0).2.2 _ (Option.some.inj h1).symm
    rw [if_neg this, (hN q hq).1]
    rfl
/-- the end -/
def spEnd (K : PySem.W.Frag) (tbs : List (Addr × Nat) := []) : Sp := fun vs H Q _ => ∃ (a : Addr) (ns : List Int), vs = [.ref a] ∧ ns.length ≤ 63 ∧ (∀ q ∈ tbs, H q.1 = some (.tbl #[])) ∧ SqL K H a (ns.map V.int) ∧ ∀ H', Q (.bl true) H'
theorem law_spQ {K : PySem.W.Frag} {T : Tab} {p : Pg} {n f : Nat} {H : Hp} {a : Addr} {ns : List Int} {Q : VK} {E : XK} (hN : ∀ q ∈ T.tbs, T.tbs.lookup q.1 = some q.2 ∧ q.2 % 4 = 1) (hT : ∀ q ∈ T.tbs, H q.1 = some (.tbl #[])) (hS : SqL K H a (ns.map V.int)) (h : (p.sm n).sem f [.lst (ns.map .int)] (fun d => d = .bl true) (fun _ => False)) (q : ∀ H', Q (.bl true) H') :
    spF K T 1 ((p.sm n).sem f) [.ref a] H Q E := by
  have rs : ∀ (F : Hp) (ns : List Int), Rs K T F (ns.map D.int) (ns.map V.int) := fun F ns => by
    induction ns with
    | nil => rfl
    | cons x r ih => exact ⟨.int x, _, rfl, rfl, ih⟩
  have main : ∀ F, SubC K T F H → SqL K F a (ns.map V.int) → spF K T 1 ((p.sm n).sem f) [.ref a] H Q E := fun F hF hL =>
    ⟨rfl, F, [.lst (ns.map .int)], (fun d => d = .bl true), _, hF, Rs.one (d := .lst (ns.map .int)) ⟨a, _, rfl, hL, rs F ns⟩, h, fun d v F' H' e _ r => by subst e; cases r; exact q H', fun _ _ _ _ _ z => z.elim⟩
  rcases hS with (s | ⟨o, s⟩) | s
  · refine main (topF T.tbs a (some (.lst (ns.map V.int)))) (top_sub (fun z e => ?_) hN hT) (.inl (.inl (if_pos ⟨rfl, fun z => nomatch z⟩)))
    cases e
    exact ⟨s, (fun i z => nomatch z), fun ps z => nomatch z⟩
  · refine main (topF T.tbs a (some (.frz o (.lst (ns.map V.int))))) (top_sub (fun z e => ?_) hN hT) (.inl (.inr ⟨o, if_pos ⟨rfl, fun z => nomatch z⟩⟩))
    cases e
    exact ⟨s, (fun i z => nomatch z), fun ps z => nomatch z⟩
  · exact main (topF T.tbs a none) (top_sub (fun z e => nomatch e) hN hT) (.inr s)
theorem fn_end {P : Program} {w : World} {K : PySem.W.Frag} {T : Tab} {mg : Str → Option Value} {base : Heap} {fa : Addr} {fd : FuncData} {p : Pg} {n f : Nat} (hN : ∀ q ∈ T.tbs, T.tbs.lookup q.1 = some q.2 ∧ q.2 % 4 = 1)
    (hl : ∀ ns : List Int, ns.length ≤ 63 → (p.sm n).sem f [.lst (ns.map .int)] (fun d => d = .bl true) (fun _ => False))
    (F : FnOk P w K mg base (L2.CX P w) n fa fd ["script"] (spF K T 1 ((p.sm n).sem f))) : FnOk P w K mg base (L2.CX P w) n fa fd ["script"] (spEnd K T.tbs) := by
  have up : ∀ vs H Q E, spEnd K T.tbs vs H Q E → spF K T 1 ((p.sm n).sem f) vs H Q E := fun vs H Q E ⟨a, ns, e, hn, hT, hS, q⟩ => by subst e; exact law_spQ hN hT hS (hl ns hn) q
  exact F.imp up
theorem endE {P : Program} {w : World} {K : PySem.W.Frag} {mg : Str → Option Value} {fa : Addr} {p : Pg} {n f : Nat}
    (hl : ∀ ns : List Int, ns.length ≤ 63 → (p.sm n).sem f [.lst (ns.map .int)] (fun d => d = .bl true) (fun _ => False))
    (hf : ∃ T : Tab, ∃ fd : FuncData, T.tbs = [] ∧ (∀ (s : Shared) (v : Value), BindsTo s fd ⟨[v], []⟩ [("script", v)]) ∧ ∀ base : Heap, K.In base → base.Ns mainGlobals mg → FnOk P w K mg base (L2.CX P w) n fa fd ["script"] (spF K T 1 ((p.sm n).sem f))) :
    ∃ fd : FuncData, (∀ (s : Shared) (v : Value), BindsTo s fd ⟨[v], []⟩ [("script", v)]) ∧ ∀ base : Heap, K.In base → base.Ns mainGlobals mg → FnOk P w K mg base (L2.CX P w) n fa fd ["script"] (spEnd K) := by
  obtain ⟨T, fd, ht, h1, h2⟩ := hf
  refine ⟨fd, h1, fun base k g => ?_⟩
  have := fn_end (T := T) (by rw [ht]; exact fun q h => nomatch h) hl (h2 base k g)
  rwa [ht] at this
/-- the end of a law whose program makes lambdas -/
theorem endT {l : PySem.W.OpenLaw} {w : World} {K : PySem.W.Frag} {mg : Str → Option Value} {fa : Addr} {p : Pg} {n f : Nat} {h : Heap} {cs : List (Addr × Addr)} {tbs : List (Addr × Nat)}
    (hl : ∀ ns : List Int, ns.length ≤ 63 → (p.sm n).sem f [.lst (ns.map .int)] (fun d => d = .bl true) (fun _ => False))
    (hN : ∀ q ∈ tbs, tbs.lookup q.1 = some q.2 ∧ q.2 % 4 = 1) (hc : ∀ q ∈ tbs, ∃ p ∈ cs, p.2 = q.1)
    (h1 : ∀ p ∈ cs, h.get? p.2 = some { cls := .none, data := .fields #[] }) (h2 : ∀ p ∈ cs, K.lookup p.2 = none) (h3 : ∀ p ∈ cs, PySem.W.CodeHd h p.1 p.2)
    (hf : ∃ T : Tab, ∃ fd : FuncData, T.tbs = tbs ∧ (∀ (s : Shared) (v : Value), BindsTo s fd ⟨[v], []⟩ [("script", v)]) ∧ ∀ base : Heap, K.In base → base.Ns mainGlobals mg → (∀ q ∈ cs, LamX.TabB base mg q.1 q.2) → FnOk l.prog w K mg base (L2.CX l.prog w) n fa fd ["script"] (spF K T 1 ((p.sm n).sem f))) :
    LamX.LawAtS l w K (L2.CX l.prog w) n 63 "script" mg fa h := by
  obtain ⟨T, fd, ht, g1, g2⟩ := hf
  subst ht
  refine ⟨fd, cs, spEnd K T.tbs, h1, h2, h3, g1, fun H a ns hn _ hT hS => ⟨a, ns, rfl, hn, fun q hq => ?_, hS, fun _ => rfl⟩, fun base k g hB => fn_end hN hl (g2 base k g hB)⟩
  obtain ⟨p, hp, e⟩ := hc q hq
  rw [← e]
  exact hT p hp
end Tr

namespace Tr
open PySem PySem.Spec PyProof.Rows L2

/-! ### what a call with keywords binds -/
def AllLF {α : Type} (P : α → Prop) : List α → Prop
  | [] => True
  | d :: r => P d ∧ AllLF P r
theorem AllL.go {α : Type} {P : α → Prop} : ∀ {l : List α}, AllLF P l → ∀ q ∈ l, P q
  | [], _, q, e => by cases e
  | a :: r, h, q, e => by
    rcases List.mem_cons.mp e with z | z
    · subst z; exact h.1
    · exact AllL.go h.2 q z
theorem AllIx.go0 {α : Type} {P : Nat → α → Prop} {l : List α} (h : AllIxF P 0 l) : ∀ f d, l[f]? = some d → P f d := fun f d e => by
  have := h.at f d e
  rwa [Nat.zero_add] at this
inductive Sel where
  | pos (i : Nat) | key (j : Nat) | mis (m : Nat)
def selA {α : Type} (us mv ws : List α) : Sel → Option α
  | .pos i => us[i]?
  | .key j => ws[j]?
  | .mis m => mv[m]?
def gsel {α : Type} : List Sel → List α → List α → List α → List α
  | [], _, _, _ => []
  | a :: r, us, mv, ws => match selA us mv ws a with
    | some x => x :: gsel r us mv ws
    | none => gsel r us mv ws
def toSel : List Arg → Nat → List Sel
  | [], _ => []
  | .pos i :: r, m => .pos (i + 1) :: toSel r m
  | .key j :: r, m => .key j :: toSel r m
  | .dfl _ :: r, m => .mis m :: toSel r (m + 1)
def dfls : List Arg → List D
  | [] => []
  | .dfl d :: r => d :: dfls r
  | _ :: r => dfls r
theorem Vals.at' {vs : List V} {us : List Value} (h : Vals vs us) : ∀ i : Nat, (vs[i]? = none ∧ us[i]? = none) ∨ ∃ v u, vs[i]? = some v ∧ us[i]? = some u ∧ RelV v u := by
  induction h with
  | nil => intro i; exact .inl ⟨by simp, by simp⟩
  | cons a _ ih =>
    intro i
    cases i with
    | zero => exact .inr ⟨_, _, rfl, rfl, a⟩
    | succ i => simpa using ih i
theorem selA_rel {vs mz zs : List V} {us mv ws : List Value} (h1 : Vals vs us) (h2 : Vals mz mv) (h3 : Vals zs ws) (a : Sel) : (selA vs mz zs a = none ∧ selA us mv ws a = none) ∨ ∃ v u, selA vs mz zs a = some v ∧ selA us mv ws a = some u ∧ RelV v u := by
  cases a with
  | pos i => exact Vals.at' h1 i
  | key i => exact Vals.at' h3 i
  | mis i => exact Vals.at' h2 i
theorem gsel_rel {vs mz zs : List V} {us mv ws : List Value} (h1 : Vals vs us) (h2 : Vals mz mv) (h3 : Vals zs ws) : ∀ arr : List Sel, Vals (gsel arr vs mz zs) (gsel arr us mv ws)
  | [] => .nil
  | a :: r => by
    have ih := gsel_rel h1 h2 h3 r
    unfold gsel
    rcases selA_rel h1 h2 h3 a with ⟨e1, e2⟩ | ⟨v, u, e1, e2, e3⟩
    · rw [e1, e2]; exact ih
    · rw [e1, e2]; exact .cons e3 ih
section
variable {K : PySem.W.Frag} {T : Tab}
def AllR2 (F : Hp) : List D → List V → Prop
  | [], [] => True
  | d :: ds, v :: vs => R K T F d v ∧ AllR2 F ds vs
  | _, _ => False
theorem AllR2.rs {F : Hp} : ∀ {ds : List D} {vs : List V}, AllR2 (K := K) (T := T) F ds vs → Rs K T F ds vs
  | [], [], _ => rfl
  | d :: ds, v :: vs, h => ⟨v, vs, rfl, h.1, h.2.rs⟩
  | [], _ :: _, h => h.elim
  | _ :: _, [], h => h.elim
theorem toSel_ok {F : Hp} {v : V} {vs mz zs : List V} {ds dz : List D} (r1 : Rs K T F ds vs) (r2 : Rs K T F dz zs) : ∀ (arr : List Arg) (m : Nat) (xs : List D), Rs K T F (dfls arr) (mz.drop m) → arrD ds dz arr = some xs → Rs K T F xs (gsel (toSel arr m) (v :: vs) mz zs)
  | [], m, xs, _, e => by cases e; rfl
  | a :: r, m, xs, hm, e => by
    unfold arrD at e
    cases ea : argD ds dz a with
    | none => rw [ea] at e; cases e
    | some x =>
      cases er : arrD ds dz r with
      | none => rw [ea, er] at e; cases e
      | some ys =>
        rw [ea, er] at e
        cases e
        cases a with
        | pos i =>
          obtain ⟨w, e1, e2⟩ := r1.get (show ds[i]? = some x from ea)
          have ih := toSel_ok (v := v) r1 r2 r m ys hm er
          show Rs K T F (x :: ys) (gsel (.pos (i + 1) :: toSel r m) (v :: vs) mz zs)
          unfold gsel
          rw [show selA (v :: vs) mz zs (.pos (i + 1)) = some w from (show (v :: vs)[i + 1]? = some w by simpa using e1)]
          exact ⟨w, _, rfl, e2, ih⟩
        | key j =>
          obtain ⟨w, e1, e2⟩ := r2.get (show dz[j]? = some x from ea)
          have ih := toSel_ok (v := v) r1 r2 r m ys hm er
          show Rs K T F (x :: ys) (gsel (.key j :: toSel r m) (v :: vs) mz zs)
          unfold gsel
          rw [show selA (v :: vs) mz zs (.key j) = some w from e1]
          exact ⟨w, _, rfl, e2, ih⟩
        | dfl d =>
          obtain rfl : d = x := Option.some.inj ea
          obtain ⟨w, t, e1, e2, e3⟩ := (show Rs K T F (d :: dfls r) (mz.drop m) from hm)
          have g1 : mz[m]? = some w := by
            have := congrArg (fun l : List V => l[0]?) e1
            simpa using this
          have g2 : mz.drop (m + 1) = t := by
            have := congrArg List.tail e1
            simpa using this
          have ih := toSel_ok (v := v) r1 r2 r (m + 1) ys (by rw [g2]; exact e3) er
          show Rs K T F (_ :: ys) (gsel (.mis m :: toSel r (m + 1)) (v :: vs) mz zs)
          unfold gsel
          rw [show selA (v :: vs) mz zs (.mis m) = some w from g1]
          exact ⟨w, _, rfl, e2, ih⟩
theorem kb_ok {x qual : Str} {params : Arguments} {body : List Stmt} {scope : Scope} {kws : List (Str × V)} {f : Addr} {fd : FuncData} {ps : List Str} {sh : Shp} (F : FunD K x qual params body scope [] kws f fd) (ms : List (Str × V)) (hk : kws ≠ []) (hms : ∀ q ∈ ms, q ∈ kws)
    (hd : ∀ F0 : Hp, AllR2 (K := K) (T := T) F0 (dfls sh.arr) (ms.map (·.2))) (hl : (dfls sh.arr).length = ms.length)
    (h : ∀ (D : Addr) (doc pm : Value) (an : Option Addr) (cdv ct : Value) (us mv ws : List Value), us.length = sh.n + 1 → mv.length = ms.length → ws.length = sh.ks.length →
      KwChain D ((ms.map (·.1)).zip mv) (bindArgs (PySem.W.fnOf x qual params body scope .none (.ref D) doc pm an cdv ct) ⟨us, sh.ks.zip ws⟩) (ps.zip (gsel (.pos 0 :: toSel sh.arr 0) us mv ws))) : KbOk K T fd ps sh := by
  obtain ⟨mv, hb⟩ := F.kbinds0 (ps := ps) (sh.n + 1) sh.ks ms (fun {α} us mv ws => gsel (.pos 0 :: toSel sh.arr 0) us mv ws) hk hms (fun r1 r2 r3 => gsel_rel r1 r2 r3 _) h
  refine ⟨_, _, hb, fun F0 v vs zs ds dz xs r1 r2 n1 n2 e => ⟨gsel (toSel sh.arr 0) (v :: vs) (ms.map (·.2)) zs, rfl, toSel_ok r1 r2 sh.arr 0 xs ?_ e⟩⟩
  rw [List.drop_zero]
  exact (hd F0).rs
theorem Vals.dropV {vs : List V} {us : List Value} (h : Vals vs us) : ∀ j : Nat, Vals (vs.drop j) (us.drop j) := by
  induction h with
  | nil => intro j; simp only [List.drop_nil]; exact .nil
  | cons a b ih =>
    intro j
    cases j with
    | zero => exact .cons a b
    | succ j => exact ih j
theorem kb_okD {x qual : Str} {params : Arguments} {body : List Stmt} {scope : Scope} {dvs : List V} {kws : List (Str × V)} {f : Addr} {fd : FuncData} {ps : List Str} {sh : Shp} (F : FunD K x qual params body scope dvs kws f fd) (j : Nat) (hd0 : dvs ≠ [])
    (hd : ∀ F0 : Hp, AllR2 (K := K) (T := T) F0 (dfls sh.arr) (dvs.drop j))
    (h : ∀ (D : Addr) (kV doc pm : Value) (an : Option Addr) (cdv ct : Value) (us its ws : List Value), us.length = sh.n + 1 → its.length = dvs.length → ws.length = sh.ks.length →
      ∃ k, bindArgs (PySem.W.fnOf x qual params body scope (.ref D) kV doc pm an cdv ct) ⟨us, sh.ks.zip ws⟩ = seqItems? (.ref D) >>= k ∧ k (some its.toArray) = pure (ps.zip (gsel (.pos 0 :: toSel sh.arr 0) us (its.drop j) ws))) : KbOk K T fd ps sh := by
  obtain ⟨its, hb⟩ := F.kbindsD (ps := ps) (sh.n + 1) sh.ks (fun {α} us mv ws => gsel (.pos 0 :: toSel sh.arr 0) us (mv.drop j) ws) hd0 (fun r1 r2 r3 => gsel_rel r1 (Vals.dropV r2 j) r3 _) h
  refine ⟨_, _, hb, fun F0 v vs zs ds dz xs r1 r2 n1 n2 e => ⟨gsel (toSel sh.arr 0) (v :: vs) (dvs.drop j) zs, rfl, toSel_ok r1 r2 sh.arr 0 xs ?_ e⟩⟩
  rw [List.drop_zero]
  exact (hd F0).rs
def toSelF : List Arg → Nat → List Sel
  | [], _ => []
  | .pos i :: r, m => .pos i :: toSelF r m
  | .key j :: r, m => .key j :: toSelF r m
  | .dfl _ :: r, m => .mis m :: toSelF r (m + 1)
theorem toSelF_ok {F : Hp} {vs mz zs : List V} {ds dz : List D} (r1 : Rs K T F ds vs) (r2 : Rs K T F dz zs) : ∀ (arr : List Arg) (m : Nat) (xs : List D), Rs K T F (dfls arr) (mz.drop m) → arrD ds dz arr = some xs → Rs K T F xs (gsel (toSelF arr m) vs mz zs)
  | [], m, xs, _, e => by cases e; rfl
  | a :: r, m, xs, hm, e => by
    unfold arrD at e
    cases ea : argD ds dz a with
    | none => rw [ea] at e; cases e
    | some x =>
      cases er : arrD ds dz r with
      | none => rw [ea, er] at e; cases e
      | some ys =>
        rw [ea, er] at e
        cases e
        cases a with
        | pos i =>
          obtain ⟨w, e1, e2⟩ := r1.get (show ds[i]? = some x from ea)
          have ih := toSelF_ok r1 r2 r m ys hm er
          show Rs K T F (x :: ys) (gsel (.pos i :: toSelF r m) vs mz zs)
          unfold gsel
          rw [show selA vs mz zs (.pos i) = some w from e1]
          exact ⟨w, _, rfl, e2, ih⟩
        | key j =>
          obtain ⟨w, e1, e2⟩ := r2.get (show dz[j]? = some x from ea)
          have ih := toSelF_ok r1 r2 r m ys hm er
          show Rs K T F (x :: ys) (gsel (.key j :: toSelF r m) vs mz zs)
          unfold gsel
          rw [show selA vs mz zs (.key j) = some w from e1]
          exact ⟨w, _, rfl, e2, ih⟩
        | dfl d =>
          obtain rfl : d = x := Option.some.inj ea
          obtain ⟨w, t, e1, e2, e3⟩ := (show Rs K T F (d :: dfls r) (mz.drop m) from hm)
          have g1 : mz[m]? = some w := by
            have := congrArg (fun l : List V => l[0]?) e1
            simpa using this
          have g2 : mz.drop (m + 1) = t := by
            have := congrArg List.tail e1
            simpa using this
          have ih := toSelF_ok r1 r2 r (m + 1) ys (by rw [g2]; exact e3) er
          show Rs K T F (_ :: ys) (gsel (.mis m :: toSelF r (m + 1)) vs mz zs)
          unfold gsel
          rw [show selA vs mz zs (.mis m) = some w from g1]
          exact ⟨w, _, rfl, e2, ih⟩
theorem kf_ok {x qual : Str} {params : Arguments} {body : List Stmt} {scope : Scope} {kws : List (Str × V)} {f : Addr} {fd : FuncData} {ps : List Str} {sh : Shp} (F : FunD K x qual params body scope [] kws f fd) (ms : List (Str × V)) (hk : kws ≠ []) (hms : ∀ q ∈ ms, q ∈ kws)
    (hd : ∀ F0 : Hp, AllR2 (K := K) (T := T) F0 (dfls sh.arr) (ms.map (·.2))) (hl : (dfls sh.arr).length = ms.length)
    (h : ∀ (D : Addr) (doc pm : Value) (an : Option Addr) (cdv ct : Value) (us mv ws : List Value), us.length = sh.n → mv.length = ms.length → ws.length = sh.ks.length →
      KwChain D ((ms.map (·.1)).zip mv) (bindArgs (PySem.W.fnOf x qual params body scope .none (.ref D) doc pm an cdv ct) ⟨us, sh.ks.zip ws⟩) (ps.zip (gsel (toSelF sh.arr 0) us mv ws))) : KfOk K T fd ps sh := by
  obtain ⟨mv, hb⟩ := F.kbinds0 (ps := ps) sh.n sh.ks ms (fun {α} us mv ws => gsel (toSelF sh.arr 0) us mv ws) hk hms (fun r1 r2 r3 => gsel_rel r1 r2 r3 _) h
  refine ⟨_, _, hb, fun F0 vs zs ds dz xs r1 r2 n1 n2 e => toSelF_ok r1 r2 sh.arr 0 xs ?_ e⟩
  rw [List.drop_zero]
  exact (hd F0).rs
end
end Tr

namespace Tr
open PySem PySem.Spec PyProof.Rows L2

/-! ### reading a program upon trees -/
theorem atI_eq {α : Type} (xs : List α) (i : Int) : L2.atI xs i = L2.atI xs i := rfl
theorem seq_mid {t u : WS} {A : EndsD} {ρ : List Slot} (J : List Slot → Prop) (h1 : ∀ N : List Slot → Prop, (∀ ρ', J ρ' → N ρ') → t { A with nx := N } ρ) (h2 : ∀ ρ', J ρ' → u A ρ') : sSeq t u A ρ := h1 _ h2
theorem wF_of {np n : Nat} {b : WS} {ds : List D} {P : D → Prop} {E : Exc → Prop} (h : ds.length = np) (q : b { nx := fun _ => P .non, rt := P, bk := fun _ => False, ct := fun _ => False, xe := fun x _ => E x } (slots0 n ds)) : wF np n b ds P E := ⟨h, q⟩
theorem for_inv {g : WG} {b : WS} {A : EndsD} : ∀ {items : List D} (I : Nat → List Slot → Prop) {ρ : List Slot}, I 0 ρ →
    (∀ (i : Nat) (h : i < items.length) (ρ : List Slot) (N : List Slot → Prop), I i ρ → (∀ ρ', I (i + 1) ρ' → N ρ') → g items[i] ρ fun ρ1 => b { A with nx := N, ct := N, bk := A.nx } ρ1) →
    (∀ ρ, I items.length ρ → A.nx ρ) → forL g b items A ρ
  | [], I, ρ, h0, hs, he => he ρ h0
  | d :: r, I, ρ, h0, hs, he => by
    refine hs 0 (Nat.succ_pos _) ρ _ h0 fun ρ' h' => ?_
    exact for_inv (fun i => I (i + 1)) h' (fun i hi ρ N hI hN => hs (i + 1) (Nat.succ_lt_succ hi) ρ N hI hN) he
theorem for_rg {g : WG} {b : WS} {A : EndsD} {lo hi : Int} (I : Int → List Slot → Prop) {ρ : List Slot} (hlh : lo ≤ hi) (h0 : I lo ρ)
    (hs : ∀ i : Int, lo ≤ i → i < hi → ∀ (ρ : List Slot) (N : List Slot → Prop), I i ρ → (∀ ρ', I (i + 1) ρ' → N ρ') → g (.int i) ρ fun ρ1 => b { A with nx := N, ct := N, bk := A.nx } ρ1)
    (he : ∀ ρ, I hi ρ → A.nx ρ) : forL g b (rgD lo hi) A ρ := by
  refine for_inv (fun i ρ => I (lo + i) ρ) (by simpa using h0) (fun i hl ρ N hI hN => ?_) (fun ρ hI => he ρ ?_)
  · have hl' := hl
    rw [rgD_len] at hl'
    have eg : (rgD lo hi)[i]'hl = .int (lo + i) := rgD_get (List.getElem?_eq_getElem hl)
    rw [eg]
    exact hs (lo + i) (by omega) (by omega) ρ N hI fun ρ' h' => hN ρ' (by rw [show lo + ((i + 1 : Nat) : Int) = lo + i + 1 by omega]; exact h')
  · rw [rgD_len] at hI
    rwa [show lo + (((hi - lo).toNat : Nat) : Int) = hi by omega] at hI

/-! ### sizes -/
def Sz (i : Int) (a : Nat) : Prop := i.natAbs < 2 ^ a
theorem Sz.mulOk {i j : Int} {a b : Nat} (h1 : Sz i a) (h2 : Sz j b) (h : a + b ≤ 999000) : MulOk i j := by
  have h1' : Sz i (a + 1) := Nat.lt_of_lt_of_le h1 (Nat.pow_le_pow_right (by decide) (Nat.le_succ a))
  have h2' : Sz j (b + 1) := Nat.lt_of_lt_of_le h2 (Nat.pow_le_pow_right (by decide) (Nat.le_succ b))
  exact ⟨(L2.wide_mul h1' h2' (Nat.succ_pos _) (Nat.succ_pos _) (by omega)).ok⟩
theorem Sz.mono {i : Int} {a b : Nat} (h : Sz i a) (q : a ≤ b) : Sz i b := Nat.lt_of_lt_of_le h (Nat.pow_le_pow_right (by decide) q)
theorem Sz.mul {i j : Int} {a b : Nat} (h1 : Sz i a) (h2 : Sz j b) : Sz (i * j) (a + b) := L2.wide_lt h1 h2
theorem Sz.add {i j : Int} {a b : Nat} (h1 : Sz i a) (h2 : Sz j b) : Sz (i + j) (max a b + 1) := by
  have h1' : Sz i (max a b) := h1.mono (Nat.le_max_left _ _)
  have h2' : Sz j (max a b) := h2.mono (Nat.le_max_right _ _)
  unfold Sz at *
  rw [Nat.pow_succ]
  omega
theorem Sz.neg {i : Int} {a : Nat} (h : Sz i a) : Sz (-i) a := by unfold Sz at *; rwa [Int.natAbs_neg]
theorem Sz.sub {i j : Int} {a b : Nat} (h1 : Sz i a) (h2 : Sz j b) : Sz (i - j) (max a b + 1) := by rw [Int.sub_eq_add_neg]; exact h1.add h2.neg
theorem Sz.of_lt {i j : Int} {a : Nat} (h0 : 0 ≤ i) (h : i ≤ j) (q : Sz j a) : Sz i a := L2.wide_le h0 h q
theorem Sz.zero {a : Nat} : Sz 0 a := Nat.pow_pos (by decide)
theorem Sz.log {i : Int} {a : Nat} (h : Sz i (a + 1)) : i.natAbs.log2 ≤ a := by
  have := PySem.Flt.log2_lt_of (Nat.succ_pos a) h
  omega
theorem Sz.pow {i j : Int} {b : Nat} (h : Sz i b) (hj : 0 ≤ j) (hb : (b : Int) * j ≤ 2 ^ 27) : PowW i j := ⟨hj, by
  have a : PySem.Builtin.Int.intBits i ≤ b := PySem.intBits_le_iff.mpr h
  exact Int.le_trans (Int.mul_le_mul_of_nonneg_right (Int.ofNat_le.mpr a) hj) hb⟩
theorem mul_small {i j : Int} (h : -(2 ^ 64) < j ∧ j < 2 ^ 64) : MulOk i j := ⟨CMul.ok (.inr h)⟩
theorem mul_smallL {i j : Int} (h : -(2 ^ 64) < i ∧ i < 2 ^ 64) : MulOk i j := ⟨CMul.ok (.inl h)⟩

/-! ### the operators by their cases -/
section
variable {P : D → Prop} {E : Exc → Prop} {i j : Int} {ds : List D} {b k : Bool}
theorem dEq_i : dEq (.int i) (.int j) P E = P (.bl (decide (i = j))) := id rfl
theorem dNe_i : dNe (.int i) (.int j) P E = P (.bl (!decide (i = j))) := id rfl
theorem dEq_b : dEq (.bl b) (.bl k) P E = P (.bl (decide (b = k))) := id rfl
theorem dNe_b : dNe (.bl b) (.bl k) P E = P (.bl (!decide (b = k))) := id rfl
theorem dLt_i : dLt (.int i) (.int j) P E = P (.bl (decide (i < j))) := id rfl
theorem dLe_i : dLe (.int i) (.int j) P E = P (.bl (decide (i ≤ j))) := id rfl
theorem dGt_i : dGt (.int i) (.int j) P E = P (.bl (decide (j < i))) := id rfl
theorem dGe_i : dGe (.int i) (.int j) P E = P (.bl (decide (j ≤ i))) := id rfl
theorem dAdd_i : dAdd (.int i) (.int j) P E = P (.int (i + j)) := id rfl
theorem dSub_i : dSub (.int i) (.int j) P E = P (.int (i - j)) := id rfl
theorem dMul_i : dMul (.int i) (.int j) P E = (MulOk i j ∧ P (.int (i * j))) := id rfl
theorem dDiv_i : dDiv (.int i) (.int j) P E = (CDivW i j ∧ P (.int (i / j))) := id rfl
theorem dMod_i : dMod (.int i) (.int j) P E = (0 < j ∧ P (.int (i % j))) := id rfl
theorem dPow_i : dPow (.int i) (.int j) P E = (PowW i j ∧ P (.int (i ^ j.toNat))) := id rfl
theorem dShl_i : dShl (.int i) (.int j) P E = (CPow i j ∧ P (.int (i * 2 ^ j.toNat))) := id rfl
theorem dShr_i : dShr (.int i) (.int j) P E = (0 ≤ j ∧ P (.int (i / 2 ^ j.toNat))) := id rfl
theorem dNeg_i : dNeg (.int i) P E = P (.int (-i)) := id rfl
theorem dIs_b : dIs b (.bl i') (.bl k) P E = P (.bl (xor b (decide (i' = k)))) := id rfl
theorem dIx_l : dIx (.lst ds) (.int i) P E = (match L2.atI ds i with | some d => P d | none => False) := id rfl
theorem dIx_t : dIx (.tup ds) (.int i) P E = (match L2.atI ds i with | some d => P d | none => False) := id rfl
theorem bInt_i : bInt [.int i] P E = P (.int i) := id rfl
theorem bInt_b : bInt [.bl b] P E = P (.int (if b then 1 else 0)) := id rfl
theorem bLen_l : bLen [.lst ds] P E = P (.int ds.length) := id rfl
theorem bLen_t : bLen [.tup ds] P E = P (.int ds.length) := id rfl
theorem bAbs_i : bAbs [.int i] P E = P (.int (if i < 0 then -i else i)) := id rfl
theorem bMax_i : bMax [.int i, .int j] P E = P (.int (if j > i then j else i)) := id rfl
theorem bMax_3 {k : Int} : bMax [.int i, .int j, .int k] P E = P (.int (mx3 i j k)) := id rfl
theorem bMin_i : bMin [.int i, .int j] P E = P (.int (if j < i then j else i)) := id rfl
theorem bTup_l : bTuple [.lst ds] P E = P (.tup ds) := id rfl
theorem bTup_t : bTuple [.tup ds] P E = P (.tup ds) := id rfl
theorem bIsqrt_i : bIsqrt [.int i] P E = (0 ≤ i ∧ i.toNat.log2 ≤ 13000 ∧ P (.int (Float64.isqrt i.toNat : Nat))) := id rfl
theorem dIsB_ii {s : Sig} : dIsB s "int" (.int i) P E = (L2.kitB "int" "int" = some true ∧ P (.bl true)) := id rfl
theorem dIsB_ib {s : Sig} : dIsB s "bool" (.int i) P E = (L2.kitB "int" "bool" = some false ∧ P (.bl false)) := id rfl
theorem dIsB_tt {s : Sig} : dIsB s "tuple" (.tup ds) P E = (L2.kitB "tuple" "tuple" = some true ∧ P (.bl true)) := id rfl
theorem dIsB_ll {s : Sig} : dIsB s "list" (.lst ds) P E = (L2.kitB "list" "list" = some true ∧ P (.bl true)) := id rfl
theorem kit_ii : (L2.kitB "int" "int" = some true) = True := eq_true (by decide +kernel)
theorem kit_ib : (L2.kitB "int" "bool" = some false) = True := eq_true (by decide +kernel)
theorem kit_tt : (L2.kitB "tuple" "tuple" = some true) = True := eq_true (by decide +kernel)
theorem kit_ll : (L2.kitB "list" "list" = some true) = True := eq_true (by decide +kernel)
end
end Tr

namespace Tr
open PySem PySem.Spec PyProof.Rows L2

/-! ### whole numbers in a row -/
def gi (rs : List Int) (i : Int) : Int := rs.getD i.toNat 0
theorem atI_lt {α : Type} {xs : List α} {i : Int} (h0 : 0 ≤ i) (h : i < xs.length) : L2.atI xs i = some (xs[i.toNat]'(by omega)) := by
  have e : ((i.toNat : Nat) : Int) = i := by omega
  have := L2.atI_nat (xs := xs) (j := i.toNat) (List.getElem?_eq_getElem (by omega))
  rwa [e] at this
theorem atI_int {rs : List Int} {i : Int} (h0 : 0 ≤ i) (h : i < rs.length) : L2.atI (rs.map D.int) i = some (.int (gi rs i)) := by
  rw [atI_lt h0 (by simpa using h)]
  unfold gi
  rw [List.getD_eq_getElem?_getD, List.getElem?_eq_getElem (by omega)]
  simp
theorem gi_mem {rs : List Int} {i : Int} (h0 : 0 ≤ i) (h : i < rs.length) : gi rs i ∈ rs := by
  unfold gi
  rw [List.getD_eq_getElem?_getD, List.getElem?_eq_getElem (by omega)]
  exact List.getElem_mem _
theorem for_ints {g : WG} {b : WS} {A : EndsD} {ns : List Int} (I : List Slot → Prop) {ρ : List Slot} (h0 : I ρ)
    (hs : ∀ a ∈ ns, ∀ (ρ : List Slot) (N : List Slot → Prop), I ρ → (∀ ρ', I ρ' → N ρ') → g (.int a) ρ fun ρ1 => b { A with nx := N, ct := N, bk := A.nx } ρ1)
    (he : ∀ ρ, I ρ → A.nx ρ) : forL g b (ns.map .int) A ρ := by
  refine for_inv (fun _ => I) h0 (fun i hi ρ N hI hN => ?_) he
  rw [List.getElem_map]
  exact hs _ (List.getElem_mem _) ρ N hI hN
theorem div_sz {q k b : Int} {a : Nat} (hb : 0 < b) (h1 : (k - 1) * b < q) (h2 : q ≤ k * b) (sq : Sz q a) : Sz k (a + 1) := by
  have e : k.natAbs ≤ q.natAbs + 1 := by
    by_cases h : 1 ≤ k
    · have : (k - 1) * 1 ≤ (k - 1) * b := Int.mul_le_mul_of_nonneg_left (by omega) (by omega)
      omega
    · have : k * b ≤ k * 1 := Int.mul_le_mul_of_nonpos_left (by omega) (by omega)
      omega
  have p : 0 < 2 ^ a := Nat.pow_pos (by decide)
  unfold Sz at *
  rw [Nat.pow_succ]
  omega
/-- the rows of a law -/
def rowsB : List IS := [.new 2 (.lst []), .for (.nm 3) (.rg1 (.var 1)) [.set (.nm 4) (.cst (.int 0)), .iff (.cmp .Gt (.blt .len [.var 0]) (.cst (.int 0))) [.set (.nm 4) (.blt .int [.ix (.var 0) (.bin .Mod (.blt .int [.var 3]) (.blt .len [.var 0]))])] [], .iff (.cmp .Lt (.var 4) (.cst (.int 0))) [.set (.nm 4) (.bin .Sub (.cst (.int 1)) (.bin .Mult (.cst (.int 2)) (.var 4)))] [], .iff (.or (.cmp .GtE (.var 3) (.blt .len [.var 0])) (.cmp .Lt (.var 4) (.cst (.int 1000000000)))) [.set (.nm 4) (.bin .Mod (.blt .int [.bin .Add (.bin .Mult (.bin .Add (.bin .Add (.var 4) (.bin .Mult (.cst (.int 977)) (.var 3))) (.cst (.int 5))) (.cst (.int 69623))) (.bin .Mult (.bin .Mult (.var 3) (.var 3)) (.cst (.int 48273)))]) (.cst (.int 2147483629))), .set (.nm 4) (.bin .Mod (.blt .int [.bin .Mult (.bin .Add (.bin .Add (.var 4) (.bin .Mult (.cst (.int 31)) (.var 3))) (.cst (.int 11))) (.cst (.int 4829173650284619377))]) (.cst (.int 18446744073709551533)))] [], .app 2 (.var 4)], .frz 2, .ret (.var 2)]
theorem rows_ok {M : Sm} {ns : List Int} {n : Int} {P : D → Prop} {E : Exc → Prop} (hl : ns.length ≤ 63) (h0 : 0 ≤ n) (h1 : n ≤ 1000)
    (q : ∀ rs : List Int, (rs.length : Int) = n → (∀ r ∈ rs, 0 ≤ r) → P (.lst (rs.map .int))) : wF 2 5 (semB M rowsB) [.lst (ns.map .int), .int n] P E := by
  simp only [semB, semS, semE, semA, semL, semT, semC, semI, semG, semGs, sSeq, sIf, sSet, sRet, sRetN, sExpr, sNil, sBrk, sCnt, sFor, sNew, sApp, sPut, sFrz, ownL, isInt, isLst, gN, gT, wTst, wTru, wAnd, wOr, wNot, wAndV, wOrV, wNotV, wIf, wChain, wLinks, w2, w1, wVar, wC, wN, wCons, wNil, wTup, wLst, wIxO, wLenO, wRg1, wRg2, wTupI, wLstI, isTup, cmpD, binD, biD, isTru, dTru, slots0, wLc, noOwn, lcL, wYes, wipeR, List.all_cons, List.all_nil, bAll, bSum, allBl, allI, Option.map_some, Bool.and_self, Bool.and_true, Bool.true_and, dEq_i, dNe_i, dEq_b, dNe_b, dLt_i, dLe_i, dGt_i, dGe_i, dAdd_i, dSub_i, dMul_i, dDiv_i, dMod_i, dPow_i, dShl_i, dShr_i, dNeg_i, dIs_b, dIx_l, dIx_t, bInt_i, bInt_b, bLen_l, bLen_t, bAbs_i, bMax_i, bMax_3, bMin_i, bTup_l, bTup_t, bIsqrt_i, dIsB_ii, dIsB_ib, dIsB_tt, dIsB_ll, kit_ii, kit_ib, kit_tt, kit_ll, List.map_cons, List.map_nil, List.length_cons, List.length_nil, List.replicate_succ, List.replicate_zero, List.append_nil, List.nil_append, List.cons_append, List.getElem?_cons_zero, List.getElem?_cons_succ, List.set_cons_zero, List.set_cons_succ, List.length_map, Nat.reduceAdd, Nat.reduceSub, Nat.zero_add, Nat.add_zero, Nat.sub_self, true_and, and_true, decide_eq_true_eq, Bool.false_eq_true, Bool.not_eq_true', Bool.not_true, Bool.not_false, decide_eq_false_iff_not, if_true, if_false, ite_true, ite_false, eq_self_iff_true, Int.reduceLT, Int.reduceLE, reduceCtorEq, wF, rowsB]
  refine ⟨by decide, by unfold small62; omega, ?_⟩
  refine for_rg (fun i ρ => ∃ (rs : List Int) (x y : Slot), ρ = [.val (.lst (ns.map .int)), .val (.int n), .own (.lst (rs.map .int)), x, y] ∧ (rs.length : Int) = i ∧ ∀ r ∈ rs, 0 ≤ r) h0 ⟨[], .emp, .emp, rfl, rfl, by simp⟩ ?_ ?_
  · rintro i hi0 hi1 ρ N ⟨rs, x, y, rfl, hlen, hpos⟩ hN
    -- the cell
    refine seq_mid (J := fun ρ => ∃ c : Int, ρ = [.val (.lst (ns.map .int)), .val (.int n), .own (.lst (rs.map .int)), .val (.int i), .val (.int c)]) (fun N hN => ?_) ?_
    · simp only [semB, semS, semE, semA, semL, semT, semC, semI, semG, semGs, sSeq, sIf, sSet, sRet, sRetN, sExpr, sNil, sBrk, sCnt, sFor, sNew, sApp, sPut, sFrz, ownL, isInt, isLst, gN, gT, wTst, wTru, wAnd, wOr, wNot, wAndV, wOrV, wNotV, wIf, wChain, wLinks, w2, w1, wVar, wC, wN, wCons, wNil, wTup, wLst, wIxO, wLenO, wRg1, wRg2, wTupI, wLstI, isTup, cmpD, binD, biD, isTru, dTru, slots0, wLc, noOwn, lcL, wYes, wipeR, List.all_cons, List.all_nil, bAll, bSum, allBl, allI, Option.map_some, Bool.and_self, Bool.and_true, Bool.true_and, dEq_i, dNe_i, dEq_b, dNe_b, dLt_i, dLe_i, dGt_i, dGe_i, dAdd_i, dSub_i, dMul_i, dDiv_i, dMod_i, dPow_i, dShl_i, dShr_i, dNeg_i, dIs_b, dIx_l, dIx_t, bInt_i, bInt_b, bLen_l, bLen_t, bAbs_i, bMax_i, bMax_3, bMin_i, bTup_l, bTup_t, bIsqrt_i, dIsB_ii, dIsB_ib, dIsB_tt, dIsB_ll, kit_ii, kit_ib, kit_tt, kit_ll, List.map_cons, List.map_nil, List.length_cons, List.length_nil, List.replicate_succ, List.replicate_zero, List.append_nil, List.nil_append, List.cons_append, List.getElem?_cons_zero, List.getElem?_cons_succ, List.set_cons_zero, List.set_cons_succ, List.length_map, Nat.reduceAdd, Nat.reduceSub, Nat.zero_add, Nat.add_zero, Nat.sub_self, true_and, and_true, decide_eq_true_eq, Bool.false_eq_true, Bool.not_eq_true', Bool.not_true, Bool.not_false, decide_eq_false_iff_not, if_true, if_false, ite_true, ite_false, eq_self_iff_true, Int.reduceLT, Int.reduceLE, reduceCtorEq]
      exact hN _ ⟨0, rfl⟩
    rintro ρ ⟨c, rfl⟩
    refine seq_mid (J := fun ρ => ∃ c : Int, ρ = [.val (.lst (ns.map .int)), .val (.int n), .own (.lst (rs.map .int)), .val (.int i), .val (.int c)]) (fun N hN => ?_) ?_
    · simp only [semB, semS, semE, semA, semL, semT, semC, semI, semG, semGs, sSeq, sIf, sSet, sRet, sRetN, sExpr, sNil, sBrk, sCnt, sFor, sNew, sApp, sPut, sFrz, ownL, isInt, isLst, gN, gT, wTst, wTru, wAnd, wOr, wNot, wAndV, wOrV, wNotV, wIf, wChain, wLinks, w2, w1, wVar, wC, wN, wCons, wNil, wTup, wLst, wIxO, wLenO, wRg1, wRg2, wTupI, wLstI, isTup, cmpD, binD, biD, isTru, dTru, slots0, wLc, noOwn, lcL, wYes, wipeR, List.all_cons, List.all_nil, bAll, bSum, allBl, allI, Option.map_some, Bool.and_self, Bool.and_true, Bool.true_and, dEq_i, dNe_i, dEq_b, dNe_b, dLt_i, dLe_i, dGt_i, dGe_i, dAdd_i, dSub_i, dMul_i, dDiv_i, dMod_i, dPow_i, dShl_i, dShr_i, dNeg_i, dIs_b, dIx_l, dIx_t, bInt_i, bInt_b, bLen_l, bLen_t, bAbs_i, bMax_i, bMax_3, bMin_i, bTup_l, bTup_t, bIsqrt_i, dIsB_ii, dIsB_ib, dIsB_tt, dIsB_ll, kit_ii, kit_ib, kit_tt, kit_ll, List.map_cons, List.map_nil, List.length_cons, List.length_nil, List.replicate_succ, List.replicate_zero, List.append_nil, List.nil_append, List.cons_append, List.getElem?_cons_zero, List.getElem?_cons_succ, List.set_cons_zero, List.set_cons_succ, List.length_map, Nat.reduceAdd, Nat.reduceSub, Nat.zero_add, Nat.add_zero, Nat.sub_self, true_and, and_true, decide_eq_true_eq, Bool.false_eq_true, Bool.not_eq_true', Bool.not_true, Bool.not_false, decide_eq_false_iff_not, if_true, if_false, ite_true, ite_false, eq_self_iff_true, Int.reduceLT, Int.reduceLE, reduceCtorEq]
      split
      · rename_i hp
        refine ⟨hp, ?_⟩
        rw [atI_int (Int.emod_nonneg _ (by omega)) (Int.emod_lt_of_pos _ hp)]
        exact hN _ ⟨_, rfl⟩
      · exact hN _ ⟨_, rfl⟩
    rintro ρ ⟨c, rfl⟩
    refine seq_mid (J := fun ρ => ∃ c : Int, 0 ≤ c ∧ ρ = [.val (.lst (ns.map .int)), .val (.int n), .own (.lst (rs.map .int)), .val (.int i), .val (.int c)]) (fun N hN => ?_) ?_
    · simp only [semB, semS, semE, semA, semL, semT, semC, semI, semG, semGs, sSeq, sIf, sSet, sRet, sRetN, sExpr, sNil, sBrk, sCnt, sFor, sNew, sApp, sPut, sFrz, ownL, isInt, isLst, gN, gT, wTst, wTru, wAnd, wOr, wNot, wAndV, wOrV, wNotV, wIf, wChain, wLinks, w2, w1, wVar, wC, wN, wCons, wNil, wTup, wLst, wIxO, wLenO, wRg1, wRg2, wTupI, wLstI, isTup, cmpD, binD, biD, isTru, dTru, slots0, wLc, noOwn, lcL, wYes, wipeR, List.all_cons, List.all_nil, bAll, bSum, allBl, allI, Option.map_some, Bool.and_self, Bool.and_true, Bool.true_and, dEq_i, dNe_i, dEq_b, dNe_b, dLt_i, dLe_i, dGt_i, dGe_i, dAdd_i, dSub_i, dMul_i, dDiv_i, dMod_i, dPow_i, dShl_i, dShr_i, dNeg_i, dIs_b, dIx_l, dIx_t, bInt_i, bInt_b, bLen_l, bLen_t, bAbs_i, bMax_i, bMax_3, bMin_i, bTup_l, bTup_t, bIsqrt_i, dIsB_ii, dIsB_ib, dIsB_tt, dIsB_ll, kit_ii, kit_ib, kit_tt, kit_ll, List.map_cons, List.map_nil, List.length_cons, List.length_nil, List.replicate_succ, List.replicate_zero, List.append_nil, List.nil_append, List.cons_append, List.getElem?_cons_zero, List.getElem?_cons_succ, List.set_cons_zero, List.set_cons_succ, List.length_map, Nat.reduceAdd, Nat.reduceSub, Nat.zero_add, Nat.add_zero, Nat.sub_self, true_and, and_true, decide_eq_true_eq, Bool.false_eq_true, Bool.not_eq_true', Bool.not_true, Bool.not_false, decide_eq_false_iff_not, if_true, if_false, ite_true, ite_false, eq_self_iff_true, Int.reduceLT, Int.reduceLE, reduceCtorEq]
      split
      · refine ⟨mul_smallL (by omega), ?_⟩
        exact hN _ ⟨_, by omega, rfl⟩
      · exact hN _ ⟨_, by omega, rfl⟩
    rintro ρ ⟨c, hc, rfl⟩
    refine seq_mid (J := fun ρ => ∃ c : Int, 0 ≤ c ∧ ρ = [.val (.lst (ns.map .int)), .val (.int n), .own (.lst (rs.map .int)), .val (.int i), .val (.int c)]) (fun N hN => ?_) ?_
    · have go : ∀ c' : Int, c' = c → MulOk 977 i ∧ MulOk (c + 977 * i + 5) 69623 ∧ MulOk i i ∧ MulOk (i * i) 48273 := fun _ _ => ⟨mul_smallL (by omega), mul_small (by omega), mul_small (by omega), mul_small (by omega)⟩
      obtain ⟨g1, g2, g3, g4⟩ := go c rfl
      have g5 : ∀ c : Int, MulOk (c + 31 * i + 11) 4829173650284619377 := fun _ => mul_small (by omega)
      have g6 : MulOk 31 i := mul_smallL (by omega)
      simp only [semB, semS, semE, semA, semL, semT, semC, semI, semG, semGs, sSeq, sIf, sSet, sRet, sRetN, sExpr, sNil, sBrk, sCnt, sFor, sNew, sApp, sPut, sFrz, ownL, isInt, isLst, gN, gT, wTst, wTru, wAnd, wOr, wNot, wAndV, wOrV, wNotV, wIf, wChain, wLinks, w2, w1, wVar, wC, wN, wCons, wNil, wTup, wLst, wIxO, wLenO, wRg1, wRg2, wTupI, wLstI, isTup, cmpD, binD, biD, isTru, dTru, slots0, wLc, noOwn, lcL, wYes, wipeR, List.all_cons, List.all_nil, bAll, bSum, allBl, allI, Option.map_some, Bool.and_self, Bool.and_true, Bool.true_and, dEq_i, dNe_i, dEq_b, dNe_b, dLt_i, dLe_i, dGt_i, dGe_i, dAdd_i, dSub_i, dMul_i, dDiv_i, dMod_i, dPow_i, dShl_i, dShr_i, dNeg_i, dIs_b, dIx_l, dIx_t, bInt_i, bInt_b, bLen_l, bLen_t, bAbs_i, bMax_i, bMax_3, bMin_i, bTup_l, bTup_t, bIsqrt_i, dIsB_ii, dIsB_ib, dIsB_tt, dIsB_ll, kit_ii, kit_ib, kit_tt, kit_ll, List.map_cons, List.map_nil, List.length_cons, List.length_nil, List.replicate_succ, List.replicate_zero, List.append_nil, List.nil_append, List.cons_append, List.getElem?_cons_zero, List.getElem?_cons_succ, List.set_cons_zero, List.set_cons_succ, List.length_map, Nat.reduceAdd, Nat.reduceSub, Nat.zero_add, Nat.add_zero, Nat.sub_self, true_and, and_true, decide_eq_true_eq, Bool.false_eq_true, Bool.not_eq_true', Bool.not_true, Bool.not_false, decide_eq_false_iff_not, if_true, if_false, ite_true, ite_false, eq_self_iff_true, Int.reduceLT, Int.reduceLE, reduceCtorEq, g1, g2, g3, g4, g5, g6]
      split
      · exact hN _ ⟨_, Int.emod_nonneg _ (by decide), rfl⟩
      · split
        · exact hN _ ⟨_, Int.emod_nonneg _ (by decide), rfl⟩
        · exact hN _ ⟨_, hc, rfl⟩
    rintro ρ ⟨c, hc, rfl⟩
    simp only [semB, semS, semE, semA, semL, semT, semC, semI, semG, semGs, sSeq, sIf, sSet, sRet, sRetN, sExpr, sNil, sBrk, sCnt, sFor, sNew, sApp, sPut, sFrz, ownL, isInt, isLst, gN, gT, wTst, wTru, wAnd, wOr, wNot, wAndV, wOrV, wNotV, wIf, wChain, wLinks, w2, w1, wVar, wC, wN, wCons, wNil, wTup, wLst, wIxO, wLenO, wRg1, wRg2, wTupI, wLstI, isTup, cmpD, binD, biD, isTru, dTru, slots0, wLc, noOwn, lcL, wYes, wipeR, List.all_cons, List.all_nil, bAll, bSum, allBl, allI, Option.map_some, Bool.and_self, Bool.and_true, Bool.true_and, dEq_i, dNe_i, dEq_b, dNe_b, dLt_i, dLe_i, dGt_i, dGe_i, dAdd_i, dSub_i, dMul_i, dDiv_i, dMod_i, dPow_i, dShl_i, dShr_i, dNeg_i, dIs_b, dIx_l, dIx_t, bInt_i, bInt_b, bLen_l, bLen_t, bAbs_i, bMax_i, bMax_3, bMin_i, bTup_l, bTup_t, bIsqrt_i, dIsB_ii, dIsB_ib, dIsB_tt, dIsB_ll, kit_ii, kit_ib, kit_tt, kit_ll, List.map_cons, List.map_nil, List.length_cons, List.length_nil, List.replicate_succ, List.replicate_zero, List.append_nil, List.nil_append, List.cons_append, List.getElem?_cons_zero, List.getElem?_cons_succ, List.set_cons_zero, List.set_cons_succ, List.length_map, Nat.reduceAdd, Nat.reduceSub, Nat.zero_add, Nat.add_zero, Nat.sub_self, true_and, and_true, decide_eq_true_eq, Bool.false_eq_true, Bool.not_eq_true', Bool.not_true, Bool.not_false, decide_eq_false_iff_not, if_true, if_false, ite_true, ite_false, eq_self_iff_true, Int.reduceLT, Int.reduceLE, reduceCtorEq]
    refine ⟨?_, hN _ ⟨rs ++ [c], _, _, by rw [List.map_append]; rfl, by rw [List.length_append]; simp; omega, fun r hr => ?_⟩⟩
    · exact L2.small1000 (by omega)
    · rcases List.mem_append.mp hr with q | q
      · exact hpos r q
      · rw [List.mem_singleton.mp q]; exact hc
  · rintro ρ ⟨rs, x, y, rfl, hlen, hpos⟩
    simp only [semB, semS, semE, semA, semL, semT, semC, semI, semG, semGs, sSeq, sIf, sSet, sRet, sRetN, sExpr, sNil, sBrk, sCnt, sFor, sNew, sApp, sPut, sFrz, ownL, isInt, isLst, gN, gT, wTst, wTru, wAnd, wOr, wNot, wAndV, wOrV, wNotV, wIf, wChain, wLinks, w2, w1, wVar, wC, wN, wCons, wNil, wTup, wLst, wIxO, wLenO, wRg1, wRg2, wTupI, wLstI, isTup, cmpD, binD, biD, isTru, dTru, slots0, wLc, noOwn, lcL, wYes, wipeR, List.all_cons, List.all_nil, bAll, bSum, allBl, allI, Option.map_some, Bool.and_self, Bool.and_true, Bool.true_and, dEq_i, dNe_i, dEq_b, dNe_b, dLt_i, dLe_i, dGt_i, dGe_i, dAdd_i, dSub_i, dMul_i, dDiv_i, dMod_i, dPow_i, dShl_i, dShr_i, dNeg_i, dIs_b, dIx_l, dIx_t, bInt_i, bInt_b, bLen_l, bLen_t, bAbs_i, bMax_i, bMax_3, bMin_i, bTup_l, bTup_t, bIsqrt_i, dIsB_ii, dIsB_ib, dIsB_tt, dIsB_ll, kit_ii, kit_ib, kit_tt, kit_ll, List.map_cons, List.map_nil, List.length_cons, List.length_nil, List.replicate_succ, List.replicate_zero, List.append_nil, List.nil_append, List.cons_append, List.getElem?_cons_zero, List.getElem?_cons_succ, List.set_cons_zero, List.set_cons_succ, List.length_map, Nat.reduceAdd, Nat.reduceSub, Nat.zero_add, Nat.add_zero, Nat.sub_self, true_and, and_true, decide_eq_true_eq, Bool.false_eq_true, Bool.not_eq_true', Bool.not_true, Bool.not_false, decide_eq_false_iff_not, if_true, if_false, ite_true, ite_false, eq_self_iff_true, Int.reduceLT, Int.reduceLE, reduceCtorEq]
    exact q rs hlen hpos
end Tr

namespace Tr
open PySem PySem.Spec PyProof.Rows L2

/-! ### vectors -/
def v3 (x y z : Int) : D := .tup [.int x, .int y, .int z]
theorem sh3 {x y z : Int} : SeqAt.shaped (toP (v3 x y z)) = true := by rfl
theorem eqv3 {a b c x y z : Int} : PyData.eqv (toP (v3 a b c)) (toP (v3 x y z)) = (decide (a = x) && decide (b = y) && decide (c = z)) := by
  simp only [v3, toP, toPs, PyData.eqv, PyData.eqvAll, Bool.and_true, Bool.and_assoc]
  rfl
section
variable {P : D → Prop} {E : Exc → Prop} {a b c x y z : Int}
theorem dNe_v : dNe (v3 a b c) (v3 x y z) P E = P (.bl (!(decide (a = x) && decide (b = y) && decide (c = z)))) := by
  show dEqG true _ _ P E = _
  unfold dEqG
  rw [sh3, sh3, eqv3]
  simp
theorem dEq_v : dEq (v3 a b c) (v3 x y z) P E = P (.bl (decide (a = x) && decide (b = y) && decide (c = z))) := by
  show dEqG false _ _ P E = _
  unfold dEqG
  rw [sh3, sh3, eqv3]
  simp
theorem ix_v0 : dIx (v3 a b c) (.int 0) P E = P (.int a) := id rfl
theorem ix_v1 : dIx (v3 a b c) (.int 1) P E = P (.int b) := id rfl
theorem ix_v2 : dIx (v3 a b c) (.int 2) P E = P (.int c) := id rfl
end
theorem mk_v3 (x y z : Int) : D.tup [.int x, .int y, .int z] = v3 x y z := rfl
def Sz3 (x y z : Int) (a : Nat) : Prop := Sz x a ∧ Sz y a ∧ Sz z a
def dotB : List IS := [.ret (.bin .Add (.bin .Add (.bin .Mult (.ix (.var 0) (.cst (.int 0))) (.ix (.var 1) (.cst (.int 0)))) (.bin .Mult (.ix (.var 0) (.cst (.int 1))) (.ix (.var 1) (.cst (.int 1))))) (.bin .Mult (.ix (.var 0) (.cst (.int 2))) (.ix (.var 1) (.cst (.int 2)))))]
def dt (a b c x y z : Int) : Int := a * x + b * y + c * z
theorem dot_ok {M : Sm} {a b c x y z : Int} {m n : Nat} {P : D → Prop} {E : Exc → Prop} (h1 : Sz3 a b c m) (h2 : Sz3 x y z n) (h : m + n ≤ 999000) (q : P (.int (dt a b c x y z))) : wF 2 2 (semB M dotB) [v3 a b c, v3 x y z] P E := by
  obtain ⟨s1, s2, s3⟩ := h1
  obtain ⟨t1, t2, t3⟩ := h2
  simp only [semB, semS, semE, semA, semL, semT, semC, semI, semG, semGs, sSeq, sIf, sSet, sRet, sRetN, sExpr, sNil, sBrk, sCnt, sFor, sNew, sApp, sPut, sFrz, ownL, isInt, isLst, gN, gT, wTst, wTru, wAnd, wOr, wNot, wAndV, wOrV, wNotV, wIf, wChain, wLinks, w2, w1, wVar, wC, wN, wCons, wNil, wTup, wLst, wIxO, wLenO, wRg1, wRg2, wTupI, wLstI, isTup, cmpD, binD, biD, isTru, dTru, slots0, wLc, noOwn, lcL, wYes, wipeR, List.all_cons, List.all_nil, bAll, bSum, allBl, allI, Option.map_some, Bool.and_self, Bool.and_true, Bool.true_and, dEq_i, dNe_i, dEq_b, dNe_b, dLt_i, dLe_i, dGt_i, dGe_i, dAdd_i, dSub_i, dMul_i, dDiv_i, dMod_i, dPow_i, dShl_i, dShr_i, dNeg_i, dIs_b, dIx_l, dIx_t, bInt_i, bInt_b, bLen_l, bLen_t, bAbs_i, bMax_i, bMax_3, bMin_i, bTup_l, bTup_t, bIsqrt_i, dIsB_ii, dIsB_ib, dIsB_tt, dIsB_ll, kit_ii, kit_ib, kit_tt, kit_ll, List.map_cons, List.map_nil, List.length_cons, List.length_nil, List.replicate_succ, List.replicate_zero, List.append_nil, List.nil_append, List.cons_append, List.getElem?_cons_zero, List.getElem?_cons_succ, List.set_cons_zero, List.set_cons_succ, List.length_map, Nat.reduceAdd, Nat.reduceSub, Nat.zero_add, Nat.add_zero, Nat.sub_self, true_and, and_true, decide_eq_true_eq, Bool.false_eq_true, Bool.not_eq_true', Bool.not_true, Bool.not_false, decide_eq_false_iff_not, if_true, if_false, ite_true, ite_false, eq_self_iff_true, Int.reduceLT, Int.reduceLE, reduceCtorEq, wF, dotB, ix_v0, ix_v1, ix_v2]
  exact ⟨s1.mulOk t1 h, s2.mulOk t2 h, s3.mulOk t3 h, q⟩
theorem Sz.dt {a b c x y z : Int} {m n : Nat} (h1 : Sz3 a b c m) (h2 : Sz3 x y z n) : Sz (dt a b c x y z) (m + n + 2) := by
  obtain ⟨s1, s2, s3⟩ := h1
  obtain ⟨t1, t2, t3⟩ := h2
  exact ((s1.mul t1).add (s2.mul t2)).add (s3.mul t3) |>.mono (by omega)
/-- a vector out of a row -/
def vecB : List IS := [.set (.nm 2) (.bin .Sub (.bin .Mod (.blt .int [.var 0]) (.bin .Add (.bin .Mult (.cst (.int 2)) (.var 1)) (.cst (.int 1)))) (.var 1)), .set (.nm 3) (.bin .Sub (.bin .Mod (.blt .int [.bin .FloorDiv (.var 0) (.bin .Add (.bin .Mult (.cst (.int 2)) (.var 1)) (.cst (.int 1)))]) (.bin .Add (.bin .Mult (.cst (.int 2)) (.var 1)) (.cst (.int 1)))) (.var 1)), .set (.nm 4) (.bin .Sub (.bin .Mod (.blt .int [.bin .FloorDiv (.var 0) (.bin .Pow (.bin .Add (.bin .Mult (.cst (.int 2)) (.var 1)) (.cst (.int 1))) (.cst (.int 2)))]) (.bin .Add (.bin .Mult (.cst (.int 2)) (.var 1)) (.cst (.int 1)))) (.var 1)), .ret (.tup [.var 2, .var 3, .var 4])]
def In3 (x y z s : Int) : Prop := (-s ≤ x ∧ x ≤ s) ∧ (-s ≤ y ∧ y ≤ s) ∧ (-s ≤ z ∧ z ≤ s)
theorem vec_ok {M : Sm} {r s : Int} {P : D → Prop} {E : Exc → Prop} (h0 : 0 ≤ s) (h1 : s ≤ 1000000000) (q : ∀ x y z, In3 x y z s → P (v3 x y z)) : wF 2 5 (semB M vecB) [.int r, .int s] P E := by
  have e0 : 0 < 2 * s + 1 := by omega
  have e1 : 0 < (2 * s + 1) ^ (Int.toNat 2) := Int.pow_pos e0
  have z : Sz (2 * s + 1) 60 := by unfold Sz; omega
  have z2 : Sz ((2 * s + 1) ^ (Int.toNat 2)) 120 := by
    rw [show (2 * s + 1) ^ (Int.toNat 2) = (2 * s + 1) * (2 * s + 1) by rw [show Int.toNat 2 = 2 from rfl, Int.pow_succ, Int.pow_succ, Int.pow_zero, Int.one_mul]]
    exact z.mul z
  simp only [semB, semS, semE, semA, semL, semT, semC, semI, semG, semGs, sSeq, sIf, sSet, sRet, sRetN, sExpr, sNil, sBrk, sCnt, sFor, sNew, sApp, sPut, sFrz, ownL, isInt, isLst, gN, gT, wTst, wTru, wAnd, wOr, wNot, wAndV, wOrV, wNotV, wIf, wChain, wLinks, w2, w1, wVar, wC, wN, wCons, wNil, wTup, wLst, wIxO, wLenO, wRg1, wRg2, wTupI, wLstI, isTup, cmpD, binD, biD, isTru, dTru, slots0, wLc, noOwn, lcL, wYes, wipeR, List.all_cons, List.all_nil, bAll, bSum, allBl, allI, Option.map_some, Bool.and_self, Bool.and_true, Bool.true_and, dEq_i, dNe_i, dEq_b, dNe_b, dLt_i, dLe_i, dGt_i, dGe_i, dAdd_i, dSub_i, dMul_i, dDiv_i, dMod_i, dPow_i, dShl_i, dShr_i, dNeg_i, dIs_b, dIx_l, dIx_t, bInt_i, bInt_b, bLen_l, bLen_t, bAbs_i, bMax_i, bMax_3, bMin_i, bTup_l, bTup_t, bIsqrt_i, dIsB_ii, dIsB_ib, dIsB_tt, dIsB_ll, kit_ii, kit_ib, kit_tt, kit_ll, List.map_cons, List.map_nil, List.length_cons, List.length_nil, List.replicate_succ, List.replicate_zero, List.append_nil, List.nil_append, List.cons_append, List.getElem?_cons_zero, List.getElem?_cons_succ, List.set_cons_zero, List.set_cons_succ, List.length_map, Nat.reduceAdd, Nat.reduceSub, Nat.zero_add, Nat.add_zero, Nat.sub_self, true_and, and_true, decide_eq_true_eq, Bool.false_eq_true, Bool.not_eq_true', Bool.not_true, Bool.not_false, decide_eq_false_iff_not, if_true, if_false, ite_true, ite_false, eq_self_iff_true, Int.reduceLT, Int.reduceLE, reduceCtorEq, wF, vecB, mul_smallL (i := 2) (j := s) (by omega), eq_true e0]
  refine ⟨⟨e0, ?_⟩, z.pow (by decide) (by decide), ⟨e1, ?_⟩, by decide, q _ _ _ ?_⟩
  · exact (L2.wide_div (i := r) e0 z (by decide) (by decide)).2
  · exact (L2.wide_div (i := r) e1 z2 (by decide) (by decide)).2
  · have m := fun t : Int => And.intro (Int.emod_nonneg t (show 2 * s + 1 ≠ 0 by omega)) (Int.emod_lt_of_pos t e0)
    have m1 := m r
    have m2 := m (r / (2 * s + 1))
    have m3 := m (r / (2 * s + 1) ^ (Int.toNat 2))
    unfold In3
    omega
theorem In3.sz {x y z s : Int} {a : Nat} (h : In3 x y z s) (q : Sz s a) : Sz3 x y z a := by
  obtain ⟨h1, h2, h3⟩ := h
  unfold Sz3 Sz at *
  omega
end Tr

namespace Tr
open PySem PySem.Spec PyProof.Rows L2

theorem p2_le {m n : Nat} (h : m ≤ n) : (2 : Int) ^ m ≤ 2 ^ n := by
  have : ((2 ^ m : Nat) : Int) ≤ ((2 ^ n : Nat) : Int) := Int.ofNat_le.mpr (Nat.pow_le_pow_right (by decide) h)
  simpa using this

/-! ### comprehensions -/
inductive All2 {α β : Type} (R : α → β → Prop) : List α → List β → Prop
  | nil : All2 R [] []
  | cons {a b as bs} : R a b → All2 R as bs → All2 R (a :: as) (b :: bs)
theorem All2.len {α β : Type} {R : α → β → Prop} {xs : List α} {ys : List β} (h : All2 R xs ys) : ys.length = xs.length := by
  induction h with
  | nil => rfl
  | cons _ _ ih => simp [ih]
theorem All2.mem {α β : Type} {R : α → β → Prop} {xs : List α} {ys : List β} (h : All2 R xs ys) : ∀ b ∈ ys, ∃ a ∈ xs, R a b := by
  induction h with
  | nil => intro b hb; cases hb
  | cons r _ ih =>
    intro b hb
    rcases List.mem_cons.mp hb with e | hb
    · subst e; exact ⟨_, List.mem_cons_self, r⟩
    · obtain ⟨a, h1, h2⟩ := ih b hb
      exact ⟨a, List.mem_cons_of_mem _ h1, h2⟩
theorem All2.map {α β : Type} {f : α → β} {xs : List α} {ys : List β} (h : All2 (fun a b => b = f a) xs ys) : ys = xs.map f := by
  induction h with
  | nil => rfl
  | cons r _ ih => rw [r, ih]; rfl
theorem lc_rel {α β : Type} {g : WG} {e : WE} {ρ : List Slot} (Rel : α → β → Prop) {mk : α → D} {out : β → D} {P : List D → Prop} : ∀ (xs : List α) (acc : List β), acc.length + xs.length ≤ 1000 →
    (∀ a ∈ xs, ∀ Q : D → Prop, (∀ b, Rel a b → Q (out b)) → g (mk a) ρ fun ρ2 => e ρ2 Q (fun _ => False)) →
    (∀ bs, All2 Rel xs bs → P ((acc ++ bs).map out)) → lcL g wYes e ρ (xs.map mk) (acc.map out) P
  | [], acc, _, _, he => by
    have := he [] .nil
    rw [List.append_nil] at this
    exact this
  | a :: r, acc, hl, hs, he => by
    have hl' : acc.length + (r.length + 1) ≤ 1000 := hl
    refine hs a List.mem_cons_self (fun y => (acc.map out).length < sizeLine ∧ lcL g wYes e ρ (r.map mk) (acc.map out ++ [y]) P) fun b hb => ⟨by rw [List.length_map]; exact L2.small1000 (by omega), ?_⟩
    have := lc_rel Rel (P := P) r (acc ++ [b]) (by rw [List.length_append]; simp; omega) (fun a ha => hs a (List.mem_cons_of_mem _ ha)) fun bs h => by
      rw [List.append_assoc]
      exact he (b :: bs) (.cons hb h)
    rwa [List.map_append] at this
theorem lc_rel0 {α β : Type} {g : WG} {e : WE} {ρ : List Slot} (Rel : α → β → Prop) {mk : α → D} (out : β → D) {P : List D → Prop} (xs : List α) (hl : xs.length ≤ 1000)
    (hs : ∀ a ∈ xs, ∀ Q : D → Prop, (∀ b, Rel a b → Q (out b)) → g (mk a) ρ fun ρ2 => e ρ2 Q (fun _ => False))
    (he : ∀ bs, All2 Rel xs bs → P (bs.map out)) : lcL g wYes e ρ (xs.map mk) [] P := lc_rel Rel (out := out) xs [] (by simpa using hl) hs he
def rgI (lo hi : Int) : List Int := (List.range (hi - lo).toNat).map fun i => lo + (i : Nat)
theorem rgD_I (lo hi : Int) : rgD lo hi = (rgI lo hi).map .int := by unfold rgD rgI; rw [List.map_map]; rfl
theorem rgI_len {lo hi : Int} : (rgI lo hi).length = (hi - lo).toNat := by unfold rgI; simp
theorem mem_rgI {lo hi a : Int} (h : a ∈ rgI lo hi) : lo ≤ a ∧ a < hi := by
  unfold rgI at h
  obtain ⟨i, h1, rfl⟩ := List.mem_map.mp h
  have := List.mem_range.mp h1
  omega
theorem rgI_get {lo hi : Int} {i : Nat} (h : i < (rgI lo hi).length) : (rgI lo hi)[i] = lo + (i : Nat) := by simp [rgI]
/-- over a range -/
theorem lc_rg {β : Type} {g : WG} {e : WE} {ρ : List Slot} (Rel : Int → β → Prop) (out : β → D) {lo hi : Int} {P : List D → Prop} (hl : hi - lo ≤ 1000)
    (hs : ∀ a, lo ≤ a → a < hi → ∀ Q : D → Prop, (∀ b, Rel a b → Q (out b)) → g (.int a) ρ fun ρ2 => e ρ2 Q (fun _ => False))
    (he : ∀ bs, All2 Rel (rgI lo hi) bs → P (bs.map out)) : lcL g wYes e ρ (rgD lo hi) [] P := by
  rw [rgD_I]
  exact lc_rel0 Rel out _ (by rw [rgI_len]; omega) (fun a ha => hs a (mem_rgI ha).1 (mem_rgI ha).2) he
theorem rg3 : rgD 0 3 = [.int 0, .int 1, .int 2] := rfl

/-! ### the least, the greatest; roots -/
def IsMin (m : Int) (xs : List Int) : Prop := m ∈ xs ∧ ∀ y ∈ xs, m ≤ y
def IsMax (m : Int) (xs : List Int) : Prop := m ∈ xs ∧ ∀ y ∈ xs, y ≤ m
theorem IsMin.uniq {m n : Int} {xs : List Int} (h : IsMin m xs) (k : IsMin n xs) : m = n := by
  have := h.2 _ k.1
  have := k.2 _ h.1
  omega
theorem IsMax.uniq {m n : Int} {xs : List Int} (h : IsMax m xs) (k : IsMax n xs) : m = n := by
  have := h.2 _ k.1
  have := k.2 _ h.1
  omega
section
variable {P : D → Prop} {E : Exc → Prop} {ns : List Int}
theorem bMin_ok (h : 0 < ns.length) (q : ∀ m, IsMin m ns → P (.int m)) : bMin [.lst (ns.map .int)] P E := ⟨ns, rfl, h, fun m h1 h2 => q m ⟨h1, h2⟩⟩
theorem bMax_ok (h : 0 < ns.length) (q : ∀ m, IsMax m ns → P (.int m)) : bMax [.lst (ns.map .int)] P E := ⟨ns, rfl, h, fun m h1 h2 => q m ⟨h1, h2⟩⟩
theorem bSum_ok (q : P (.int ns.sum)) : bSum [.lst (ns.map .int)] P E := by
  have e : ∀ ns : List Int, allI (ns.map .int) = some ns := by
    intro ns
    induction ns with
    | nil => rfl
    | cons a r ih => simp [allI, ih]
  unfold bSum
  simp only [e]
  exact q
theorem allI_map : allI (ns.map .int) = some ns := by
  induction ns with
  | nil => rfl
  | cons a r ih => simp [allI, ih]
theorem bList_l {ds : List D} : bList [.lst ds] P E = P (.lst ds) := id rfl
theorem bList_t {ds : List D} : bList [.tup ds] P E = P (.lst ds) := id rfl
end
def Root (n r : Int) : Prop := 0 ≤ r ∧ n ≤ r * r ∧ (0 < r → (r - 1) * (r - 1) < n)
theorem sq_le {a b : Int} (h0 : 0 ≤ a) (h : a ≤ b) : a * a ≤ b * b := Int.mul_le_mul h h h0 (by omega)
theorem sq_lt {a b : Int} (h0 : 0 ≤ b) (h : a * a < b * b) : a < b := by
  apply Int.not_le.mp
  intro k
  have := sq_le h0 k
  omega
theorem Root.uniq {n r s : Int} (h : Root n r) (k : Root n s) : r = s := by
  obtain ⟨h0, h1, h2⟩ := h
  obtain ⟨k0, k1, k2⟩ := k
  rcases Int.lt_trichotomy r s with c | c | c
  · have := sq_le h0 (show r ≤ s - 1 by omega)
    have := k2 (by omega)
    omega
  · exact c
  · have := sq_le k0 (show s ≤ r - 1 by omega)
    have := h2 (by omega)
    omega
def rootUpB : List IS := [.iff (.cmp .Eq (.var 0) (.cst (.int 0))) [.ret (.cst (.int 0))] [], .ret (.bin .Add (.blt .isqrt [.bin .Sub (.var 0) (.cst (.int 1))]) (.cst (.int 1)))]
theorem rootUp_ok {M : Sm} {n : Int} {P : D → Prop} {E : Exc → Prop} (h0 : 0 ≤ n) (hz : Sz n 13000) (q : ∀ r : Int, Root n r → P (.int r)) : wF 1 1 (semB M rootUpB) [.int n] P E := by
  simp only [semB, semS, semE, semA, semL, semT, semC, semI, semG, semGs, sSeq, sIf, sSet, sRet, sRetN, sExpr, sNil, sBrk, sCnt, sFor, sNew, sApp, sPut, sFrz, ownL, isInt, isLst, gN, gT, wTst, wTru, wAnd, wOr, wNot, wAndV, wOrV, wNotV, wIf, wChain, wLinks, w2, w1, wVar, wC, wN, wCons, wNil, wTup, wLst, wIxO, wLenO, wRg1, wRg2, wTupI, wLstI, isTup, cmpD, binD, biD, isTru, dTru, slots0, wLc, noOwn, lcL, wYes, wipeR, List.all_cons, List.all_nil, bAll, bSum, allBl, allI, Option.map_some, Bool.and_self, Bool.and_true, Bool.true_and, dEq_i, dNe_i, dEq_b, dNe_b, dLt_i, dLe_i, dGt_i, dGe_i, dAdd_i, dSub_i, dMul_i, dDiv_i, dMod_i, dPow_i, dShl_i, dShr_i, dNeg_i, dIs_b, dIx_l, dIx_t, bInt_i, bInt_b, bLen_l, bLen_t, bAbs_i, bMax_i, bMax_3, bMin_i, bTup_l, bTup_t, bIsqrt_i, dIsB_ii, dIsB_ib, dIsB_tt, dIsB_ll, kit_ii, kit_ib, kit_tt, kit_ll, List.map_cons, List.map_nil, List.length_cons, List.length_nil, List.replicate_succ, List.replicate_zero, List.append_nil, List.nil_append, List.cons_append, List.getElem?_cons_zero, List.getElem?_cons_succ, List.set_cons_zero, List.set_cons_succ, List.length_map, Nat.reduceAdd, Nat.reduceSub, Nat.zero_add, Nat.add_zero, Nat.sub_self, true_and, and_true, decide_eq_true_eq, Bool.false_eq_true, Bool.not_eq_true', Bool.not_true, Bool.not_false, decide_eq_false_iff_not, if_true, if_false, ite_true, ite_false, eq_self_iff_true, Int.reduceLT, Int.reduceLE, reduceCtorEq, wF, rootUpB]
  split
  · exact q 0 ⟨by omega, by omega, by omega⟩
  · rename_i hne
    have hm : (n - 1).toNat.log2 ≤ 13000 := by
      have : Sz (n - 1) 13001 := (Sz.of_lt (by omega) (by omega) hz).mono (by omega)
      have := this.log
      rwa [show (n - 1).natAbs = (n - 1).toNat by omega] at this
    obtain ⟨s1, s2⟩ := PySem.Float64.isqrt_spec (n - 1).toNat
    generalize Float64.isqrt (n - 1).toNat = s at *
    have e1 : ((s * s : Nat) : Int) ≤ n - 1 := by omega
    have e2 : n - 1 < (((s + 1) * (s + 1) : Nat) : Int) := by omega
    rw [Int.natCast_mul] at e1 e2
    refine ⟨by omega, hm, q _ ⟨by omega, by push_cast at e2; omega, fun _ => ?_⟩⟩
    rw [show (s : Int) + 1 - 1 = s by omega]
    omega
/-- a root by halving -/
def lawRootB : List IS := [.set (.nm 1) (.cst (.int 0)), .set (.nm 2) (.cst (.int 1)), .for (.nm 3) (.rg1 (.cst (.int 400))) [.iff (.cmp .GtE (.bin .Mult (.var 2) (.var 2)) (.var 0)) [.brk] [], .set (.nm 2) (.bin .Mult (.var 2) (.cst (.int 2)))], .for (.nm 3) (.rg1 (.cst (.int 400))) [.iff (.cmp .GtE (.bin .Add (.var 1) (.cst (.int 1))) (.var 2)) [.brk] [], .set (.nm 4) (.bin .FloorDiv (.bin .Add (.var 1) (.var 2)) (.cst (.int 2))), .iff (.cmp .GtE (.bin .Mult (.var 4) (.var 4)) (.var 0)) [.set (.nm 2) (.var 4)] [.set (.nm 1) (.var 4)]], .ret (.ite (.cmp .Eq (.var 0) (.cst (.int 0))) (.cst (.int 0)) (.var 2))]
theorem lawRoot_ok {M : Sm} {n : Int} {P : D → Prop} {E : Exc → Prop} (h0 : 0 ≤ n) (hz : n ≤ 2 ^ 700) (q : ∀ r : Int, Root n r → P (.int r)) : wF 1 5 (semB M lawRootB) [.int n] P E := by
  refine wF_of rfl ?_
  simp only [lawRootB, semB]
  refine seq_mid (J := fun ρ => ρ = [.val (.int n), .val (.int 0), .emp, .emp, .emp]) (fun N hN => ?_) ?_
  · simp only [semB, semS, semE, semA, semL, semT, semC, semI, semG, semGs, sSeq, sIf, sSet, sRet, sRetN, sExpr, sNil, sBrk, sCnt, sFor, sNew, sApp, sPut, sFrz, ownL, isInt, isLst, gN, gT, wTst, wTru, wAnd, wOr, wNot, wAndV, wOrV, wNotV, wIf, wChain, wLinks, w2, w1, wVar, wC, wN, wCons, wNil, wTup, wLst, wIxO, wLenO, wRg1, wRg2, wTupI, wLstI, isTup, cmpD, binD, biD, isTru, dTru, slots0, wLc, noOwn, lcL, wYes, wipeR, List.all_cons, List.all_nil, bAll, bSum, allBl, allI, Option.map_some, Bool.and_self, Bool.and_true, Bool.true_and, dEq_i, dNe_i, dEq_b, dNe_b, dLt_i, dLe_i, dGt_i, dGe_i, dAdd_i, dSub_i, dMul_i, dDiv_i, dMod_i, dPow_i, dShl_i, dShr_i, dNeg_i, dIs_b, dIx_l, dIx_t, bInt_i, bInt_b, bLen_l, bLen_t, bAbs_i, bMax_i, bMax_3, bMin_i, bTup_l, bTup_t, bIsqrt_i, dIsB_ii, dIsB_ib, dIsB_tt, dIsB_ll, kit_ii, kit_ib, kit_tt, kit_ll, List.map_cons, List.map_nil, List.length_cons, List.length_nil, List.replicate_succ, List.replicate_zero, List.append_nil, List.nil_append, List.cons_append, List.getElem?_cons_zero, List.getElem?_cons_succ, List.set_cons_zero, List.set_cons_succ, List.length_map, Nat.reduceAdd, Nat.reduceSub, Nat.zero_add, Nat.add_zero, Nat.sub_self, true_and, and_true, decide_eq_true_eq, Bool.false_eq_true, Bool.not_eq_true', Bool.not_true, Bool.not_false, decide_eq_false_iff_not, if_true, if_false, ite_true, ite_false, eq_self_iff_true, Int.reduceLT, Int.reduceLE, reduceCtorEq]
    exact hN _ rfl
  rintro ρ rfl
  refine seq_mid (J := fun ρ => ρ = [.val (.int n), .val (.int 0), .val (.int 1), .emp, .emp]) (fun N hN => ?_) ?_
  · simp only [semB, semS, semE, semA, semL, semT, semC, semI, semG, semGs, sSeq, sIf, sSet, sRet, sRetN, sExpr, sNil, sBrk, sCnt, sFor, sNew, sApp, sPut, sFrz, ownL, isInt, isLst, gN, gT, wTst, wTru, wAnd, wOr, wNot, wAndV, wOrV, wNotV, wIf, wChain, wLinks, w2, w1, wVar, wC, wN, wCons, wNil, wTup, wLst, wIxO, wLenO, wRg1, wRg2, wTupI, wLstI, isTup, cmpD, binD, biD, isTru, dTru, slots0, wLc, noOwn, lcL, wYes, wipeR, List.all_cons, List.all_nil, bAll, bSum, allBl, allI, Option.map_some, Bool.and_self, Bool.and_true, Bool.true_and, dEq_i, dNe_i, dEq_b, dNe_b, dLt_i, dLe_i, dGt_i, dGe_i, dAdd_i, dSub_i, dMul_i, dDiv_i, dMod_i, dPow_i, dShl_i, dShr_i, dNeg_i, dIs_b, dIx_l, dIx_t, bInt_i, bInt_b, bLen_l, bLen_t, bAbs_i, bMax_i, bMax_3, bMin_i, bTup_l, bTup_t, bIsqrt_i, dIsB_ii, dIsB_ib, dIsB_tt, dIsB_ll, kit_ii, kit_ib, kit_tt, kit_ll, List.map_cons, List.map_nil, List.length_cons, List.length_nil, List.replicate_succ, List.replicate_zero, List.append_nil, List.nil_append, List.cons_append, List.getElem?_cons_zero, List.getElem?_cons_succ, List.set_cons_zero, List.set_cons_succ, List.length_map, Nat.reduceAdd, Nat.reduceSub, Nat.zero_add, Nat.add_zero, Nat.sub_self, true_and, and_true, decide_eq_true_eq, Bool.false_eq_true, Bool.not_eq_true', Bool.not_true, Bool.not_false, decide_eq_false_iff_not, if_true, if_false, ite_true, ite_false, eq_self_iff_true, Int.reduceLT, Int.reduceLE, reduceCtorEq]
    exact hN _ rfl
  rintro ρ rfl
  refine seq_mid (J := fun ρ => ∃ (h : Int) (s : Slot), 1 ≤ h ∧ h ≤ 2 ^ 360 ∧ n ≤ h * h ∧ ρ = [.val (.int n), .val (.int 0), .val (.int h), s, .emp]) (fun N hN => ?_) ?_
  · simp only [semB, semS, semE, semA, semL, semT, semC, semI, semG, semGs, sSeq, sIf, sSet, sRet, sRetN, sExpr, sNil, sBrk, sCnt, sFor, sNew, sApp, sPut, sFrz, ownL, isInt, isLst, gN, gT, wTst, wTru, wAnd, wOr, wNot, wAndV, wOrV, wNotV, wIf, wChain, wLinks, w2, w1, wVar, wC, wN, wCons, wNil, wTup, wLst, wIxO, wLenO, wRg1, wRg2, wTupI, wLstI, isTup, cmpD, binD, biD, isTru, dTru, slots0, wLc, noOwn, lcL, wYes, wipeR, List.all_cons, List.all_nil, bAll, bSum, allBl, allI, Option.map_some, Bool.and_self, Bool.and_true, Bool.true_and, dEq_i, dNe_i, dEq_b, dNe_b, dLt_i, dLe_i, dGt_i, dGe_i, dAdd_i, dSub_i, dMul_i, dDiv_i, dMod_i, dPow_i, dShl_i, dShr_i, dNeg_i, dIs_b, dIx_l, dIx_t, bInt_i, bInt_b, bLen_l, bLen_t, bAbs_i, bMax_i, bMax_3, bMin_i, bTup_l, bTup_t, bIsqrt_i, dIsB_ii, dIsB_ib, dIsB_tt, dIsB_ll, kit_ii, kit_ib, kit_tt, kit_ll, List.map_cons, List.map_nil, List.length_cons, List.length_nil, List.replicate_succ, List.replicate_zero, List.append_nil, List.nil_append, List.cons_append, List.getElem?_cons_zero, List.getElem?_cons_succ, List.set_cons_zero, List.set_cons_succ, List.length_map, Nat.reduceAdd, Nat.reduceSub, Nat.zero_add, Nat.add_zero, Nat.sub_self, true_and, and_true, decide_eq_true_eq, Bool.false_eq_true, Bool.not_eq_true', Bool.not_true, Bool.not_false, decide_eq_false_iff_not, if_true, if_false, ite_true, ite_false, eq_self_iff_true, Int.reduceLT, Int.reduceLE, reduceCtorEq]
    refine ⟨⟨by decide, by decide⟩, for_rg (fun i ρ => ∃ s : Slot, i ≤ 360 ∧ ρ = [.val (.int n), .val (.int 0), .val (.int (2 ^ i.toNat)), s, .emp]) (by omega) ⟨_, by omega, rfl⟩ ?_ ?_⟩
    · rintro i hi0 hi1 ρ N' ⟨s, hi, rfl⟩ hN'
      have hle : (2 : Int) ^ i.toNat ≤ 2 ^ 360 := p2_le (by omega)
      have hpos : (0 : Int) < 2 ^ i.toNat := Int.pow_pos (by decide)
      have z : Sz (2 ^ i.toNat) 361 := by
        have : (2 : Int) ^ 360 < 2 ^ 361 := by decide
        unfold Sz
        generalize (2 : Int) ^ i.toNat = t at *
        omega
      simp only [semB, semS, semE, semA, semL, semT, semC, semI, semG, semGs, sSeq, sIf, sSet, sRet, sRetN, sExpr, sNil, sBrk, sCnt, sFor, sNew, sApp, sPut, sFrz, ownL, isInt, isLst, gN, gT, wTst, wTru, wAnd, wOr, wNot, wAndV, wOrV, wNotV, wIf, wChain, wLinks, w2, w1, wVar, wC, wN, wCons, wNil, wTup, wLst, wIxO, wLenO, wRg1, wRg2, wTupI, wLstI, isTup, cmpD, binD, biD, isTru, dTru, slots0, wLc, noOwn, lcL, wYes, wipeR, List.all_cons, List.all_nil, bAll, bSum, allBl, allI, Option.map_some, Bool.and_self, Bool.and_true, Bool.true_and, dEq_i, dNe_i, dEq_b, dNe_b, dLt_i, dLe_i, dGt_i, dGe_i, dAdd_i, dSub_i, dMul_i, dDiv_i, dMod_i, dPow_i, dShl_i, dShr_i, dNeg_i, dIs_b, dIx_l, dIx_t, bInt_i, bInt_b, bLen_l, bLen_t, bAbs_i, bMax_i, bMax_3, bMin_i, bTup_l, bTup_t, bIsqrt_i, dIsB_ii, dIsB_ib, dIsB_tt, dIsB_ll, kit_ii, kit_ib, kit_tt, kit_ll, List.map_cons, List.map_nil, List.length_cons, List.length_nil, List.replicate_succ, List.replicate_zero, List.append_nil, List.nil_append, List.cons_append, List.getElem?_cons_zero, List.getElem?_cons_succ, List.set_cons_zero, List.set_cons_succ, List.length_map, Nat.reduceAdd, Nat.reduceSub, Nat.zero_add, Nat.add_zero, Nat.sub_self, true_and, and_true, decide_eq_true_eq, Bool.false_eq_true, Bool.not_eq_true', Bool.not_true, Bool.not_false, decide_eq_false_iff_not, if_true, if_false, ite_true, ite_false, eq_self_iff_true, Int.reduceLT, Int.reduceLE, reduceCtorEq, z.mulOk z (by decide), mul_small (i := (2 : Int) ^ i.toNat) (j := 2) (by omega)]
      split
      · rename_i h
        exact hN _ ⟨_, _, by omega, hle, h, rfl⟩
      · rename_i h
        refine hN' _ ⟨.val (.int i), ?_, ?_⟩
        · have : ¬ 360 ≤ i := fun hge => by
            have e : i = 360 := by omega
            subst e
            have : (2 : Int) ^ 700 ≤ 2 ^ (360 : Int).toNat * 2 ^ (360 : Int).toNat := by decide
            omega
          omega
        · rw [show (i + 1).toNat = i.toNat + 1 by omega, Int.pow_succ]
    · rintro ρ ⟨s, hi, rfl⟩
      omega
  rintro ρ ⟨h, s, hh1, hh2, hh3, rfl⟩
  refine seq_mid (J := fun ρ => ∃ (l h : Int) (s m : Slot), (0 ≤ l ∧ l + 1 = h ∧ n ≤ h * h ∧ (0 < l → l * l < n)) ∧ ρ = [.val (.int n), .val (.int l), .val (.int h), s, m]) (fun N hN => ?_) ?_
  · simp only [semB, semS, semE, semA, semL, semT, semC, semI, semG, semGs, sSeq, sIf, sSet, sRet, sRetN, sExpr, sNil, sBrk, sCnt, sFor, sNew, sApp, sPut, sFrz, ownL, isInt, isLst, gN, gT, wTst, wTru, wAnd, wOr, wNot, wAndV, wOrV, wNotV, wIf, wChain, wLinks, w2, w1, wVar, wC, wN, wCons, wNil, wTup, wLst, wIxO, wLenO, wRg1, wRg2, wTupI, wLstI, isTup, cmpD, binD, biD, isTru, dTru, slots0, wLc, noOwn, lcL, wYes, wipeR, List.all_cons, List.all_nil, bAll, bSum, allBl, allI, Option.map_some, Bool.and_self, Bool.and_true, Bool.true_and, dEq_i, dNe_i, dEq_b, dNe_b, dLt_i, dLe_i, dGt_i, dGe_i, dAdd_i, dSub_i, dMul_i, dDiv_i, dMod_i, dPow_i, dShl_i, dShr_i, dNeg_i, dIs_b, dIx_l, dIx_t, bInt_i, bInt_b, bLen_l, bLen_t, bAbs_i, bMax_i, bMax_3, bMin_i, bTup_l, bTup_t, bIsqrt_i, dIsB_ii, dIsB_ib, dIsB_tt, dIsB_ll, kit_ii, kit_ib, kit_tt, kit_ll, List.map_cons, List.map_nil, List.length_cons, List.length_nil, List.replicate_succ, List.replicate_zero, List.append_nil, List.nil_append, List.cons_append, List.getElem?_cons_zero, List.getElem?_cons_succ, List.set_cons_zero, List.set_cons_succ, List.length_map, Nat.reduceAdd, Nat.reduceSub, Nat.zero_add, Nat.add_zero, Nat.sub_self, true_and, and_true, decide_eq_true_eq, Bool.false_eq_true, Bool.not_eq_true', Bool.not_true, Bool.not_false, decide_eq_false_iff_not, if_true, if_false, ite_true, ite_false, eq_self_iff_true, Int.reduceLT, Int.reduceLE, reduceCtorEq]
    refine ⟨⟨by decide, by decide⟩, for_rg (fun i ρ => ∃ (l h : Int) (s m : Slot), (0 ≤ l ∧ l < h ∧ h ≤ 2 ^ 360 ∧ h - l ≤ 2 ^ (400 - i.toNat) ∧ n ≤ h * h ∧ (0 < l → l * l < n)) ∧ ρ = [.val (.int n), .val (.int l), .val (.int h), s, m]) (by omega) ⟨0, h, _, _, ⟨by omega, by omega, hh2, ?_, hh3, by omega⟩, rfl⟩ ?_ ?_⟩
    · have : (2 : Int) ^ 360 ≤ 2 ^ (400 - (0 : Int).toNat) := by decide
      omega
    · rintro i hi0 hi1 ρ N' ⟨l, h, s, m, ⟨hl, hlh, hb, hd, hn, hln⟩, rfl⟩ hN'
      have z : Sz ((l + h) / 2) 361 := by
        have : (2 : Int) ^ 360 < 2 ^ 361 := by decide
        unfold Sz
        omega
      have d2 : CDivW (l + h) 2 := L2.wide_div (b := 60) (by omega) (show Sz 2 60 by unfold Sz; omega) (by decide) (by decide)
      simp only [semB, semS, semE, semA, semL, semT, semC, semI, semG, semGs, sSeq, sIf, sSet, sRet, sRetN, sExpr, sNil, sBrk, sCnt, sFor, sNew, sApp, sPut, sFrz, ownL, isInt, isLst, gN, gT, wTst, wTru, wAnd, wOr, wNot, wAndV, wOrV, wNotV, wIf, wChain, wLinks, w2, w1, wVar, wC, wN, wCons, wNil, wTup, wLst, wIxO, wLenO, wRg1, wRg2, wTupI, wLstI, isTup, cmpD, binD, biD, isTru, dTru, slots0, wLc, noOwn, lcL, wYes, wipeR, List.all_cons, List.all_nil, bAll, bSum, allBl, allI, Option.map_some, Bool.and_self, Bool.and_true, Bool.true_and, dEq_i, dNe_i, dEq_b, dNe_b, dLt_i, dLe_i, dGt_i, dGe_i, dAdd_i, dSub_i, dMul_i, dDiv_i, dMod_i, dPow_i, dShl_i, dShr_i, dNeg_i, dIs_b, dIx_l, dIx_t, bInt_i, bInt_b, bLen_l, bLen_t, bAbs_i, bMax_i, bMax_3, bMin_i, bTup_l, bTup_t, bIsqrt_i, dIsB_ii, dIsB_ib, dIsB_tt, dIsB_ll, kit_ii, kit_ib, kit_tt, kit_ll, List.map_cons, List.map_nil, List.length_cons, List.length_nil, List.replicate_succ, List.replicate_zero, List.append_nil, List.nil_append, List.cons_append, List.getElem?_cons_zero, List.getElem?_cons_succ, List.set_cons_zero, List.set_cons_succ, List.length_map, Nat.reduceAdd, Nat.reduceSub, Nat.zero_add, Nat.add_zero, Nat.sub_self, true_and, and_true, decide_eq_true_eq, Bool.false_eq_true, Bool.not_eq_true', Bool.not_true, Bool.not_false, decide_eq_false_iff_not, if_true, if_false, ite_true, ite_false, eq_self_iff_true, Int.reduceLT, Int.reduceLE, reduceCtorEq, z.mulOk z (by decide), d2]
      split
      · rename_i hg
        exact hN _ ⟨l, h, _, _, ⟨hl, by omega, hn, hln⟩, rfl⟩
      · rename_i hg
        have e : (2 : Int) ^ (400 - i.toNat) = 2 * 2 ^ (400 - (i + 1).toNat) := by
          rw [show 400 - i.toNat = (400 - (i + 1).toNat) + 1 by omega, Int.pow_succ]; omega
        split
        · rename_i hge
          exact hN' _ ⟨l, _, _, _, ⟨hl, by omega, by omega, by omega, hge, hln⟩, rfl⟩
        · rename_i hge
          exact hN' _ ⟨_, h, _, _, ⟨by omega, by omega, by omega, by omega, hn, fun _ => by omega⟩, rfl⟩
    · rintro ρ ⟨l, h, s, m, ⟨hl, hlh, hb, hd, hn, hln⟩, rfl⟩
      have : (2 : Int) ^ (400 - (400 : Int).toNat) = 1 := rfl
      exact hN _ ⟨l, h, _, _, ⟨hl, by omega, hn, hln⟩, rfl⟩
  rintro ρ ⟨l, h, s, m, ⟨hl, hlh, hn, hln⟩, rfl⟩
  simp only [semB, semS, semE, semA, semL, semT, semC, semI, semG, semGs, sSeq, sIf, sSet, sRet, sRetN, sExpr, sNil, sBrk, sCnt, sFor, sNew, sApp, sPut, sFrz, ownL, isInt, isLst, gN, gT, wTst, wTru, wAnd, wOr, wNot, wAndV, wOrV, wNotV, wIf, wChain, wLinks, w2, w1, wVar, wC, wN, wCons, wNil, wTup, wLst, wIxO, wLenO, wRg1, wRg2, wTupI, wLstI, isTup, cmpD, binD, biD, isTru, dTru, slots0, wLc, noOwn, lcL, wYes, wipeR, List.all_cons, List.all_nil, bAll, bSum, allBl, allI, Option.map_some, Bool.and_self, Bool.and_true, Bool.true_and, dEq_i, dNe_i, dEq_b, dNe_b, dLt_i, dLe_i, dGt_i, dGe_i, dAdd_i, dSub_i, dMul_i, dDiv_i, dMod_i, dPow_i, dShl_i, dShr_i, dNeg_i, dIs_b, dIx_l, dIx_t, bInt_i, bInt_b, bLen_l, bLen_t, bAbs_i, bMax_i, bMax_3, bMin_i, bTup_l, bTup_t, bIsqrt_i, dIsB_ii, dIsB_ib, dIsB_tt, dIsB_ll, kit_ii, kit_ib, kit_tt, kit_ll, List.map_cons, List.map_nil, List.length_cons, List.length_nil, List.replicate_succ, List.replicate_zero, List.append_nil, List.nil_append, List.cons_append, List.getElem?_cons_zero, List.getElem?_cons_succ, List.set_cons_zero, List.set_cons_succ, List.length_map, Nat.reduceAdd, Nat.reduceSub, Nat.zero_add, Nat.add_zero, Nat.sub_self, true_and, and_true, decide_eq_true_eq, Bool.false_eq_true, Bool.not_eq_true', Bool.not_true, Bool.not_false, decide_eq_false_iff_not, if_true, if_false, ite_true, ite_false, eq_self_iff_true, Int.reduceLT, Int.reduceLE, reduceCtorEq]
  split
  · exact q 0 ⟨by omega, by omega, by omega⟩
  · refine q h ⟨by omega, hn, fun _ => ?_⟩
    rw [show h - 1 = l by omega]
    by_cases c : 0 < l
    · exact hln c
    · have : l = 0 := by omega
      subst this
      omega

/-! ### vectors as triples -/
abbrev V3 := Int × Int × Int
def tv (a : V3) : D := v3 a.1 a.2.1 a.2.2
def dv (a b : V3) : Int := dt a.1 a.2.1 a.2.2 b.1 b.2.1 b.2.2
theorem dt_self (x y z : Int) : 0 ≤ dt x y z x y z := by
  have sq : ∀ x : Int, 0 ≤ x * x := fun x => by
    rw [← Int.natAbs_mul_self' x]
    exact Int.mul_nonneg (by omega) (by omega)
  have := sq x
  have := sq y
  have := sq z
  unfold dt
  omega
theorem sq0 (x : Int) : 0 ≤ x * x := by
  rw [← Int.natAbs_mul_self' x]
  exact Int.mul_nonneg (by omega) (by omega)
theorem cauchy (a b c x y z : Int) : dt a b c x y z * dt a b c x y z ≤ dt a b c a b c * dt x y z x y z := by
  have e : dt a b c a b c * dt x y z x y z = dt a b c x y z * dt a b c x y z + ((a*y-b*x)*(a*y-b*x) + (b*z-c*y)*(b*z-c*y) + (a*z-c*x)*(a*z-c*x)) := by unfold dt; grind
  have h1 := sq0 (a*y-b*x)
  have h2 := sq0 (b*z-c*y)
  have h3 := sq0 (a*z-c*x)
  omega

theorem at3_0 {a b c : D} : L2.atI [a, b, c] 0 = some a := rfl
theorem at3_1 {a b c : D} : L2.atI [a, b, c] 1 = some b := rfl
theorem at3_2 {a b c : D} : L2.atI [a, b, c] 2 = some c := rfl
theorem dotL_ok {M : Sm} {a b c x y z : Int} {m n : Nat} {P : D → Prop} {E : Exc → Prop} (h1 : Sz3 a b c m) (h2 : Sz3 x y z n) (h : m + n ≤ 999000) (q : P (.int (dt a b c x y z))) : wF 2 2 (semB M dotB) [.lst [.int a, .int b, .int c], .lst [.int x, .int y, .int z]] P E := by
  obtain ⟨s1, s2, s3⟩ := h1
  obtain ⟨t1, t2, t3⟩ := h2
  simp only [semB, semS, semE, semA, semL, semT, semC, semI, semG, semGs, sSeq, sIf, sSet, sRet, sRetN, sExpr, sNil, sBrk, sCnt, sFor, sNew, sApp, sPut, sFrz, ownL, isInt, isLst, gN, gT, wTst, wTru, wAnd, wOr, wNot, wAndV, wOrV, wNotV, wIf, wChain, wLinks, w2, w1, wVar, wC, wN, wCons, wNil, wTup, wLst, wIxO, wLenO, wRg1, wRg2, wTupI, wLstI, isTup, cmpD, binD, biD, isTru, dTru, slots0, wLc, noOwn, lcL, wYes, wipeR, List.all_cons, List.all_nil, bAll, bSum, allBl, allI, Option.map_some, Bool.and_self, Bool.and_true, Bool.true_and, dEq_i, dNe_i, dEq_b, dNe_b, dLt_i, dLe_i, dGt_i, dGe_i, dAdd_i, dSub_i, dMul_i, dDiv_i, dMod_i, dPow_i, dShl_i, dShr_i, dNeg_i, dIs_b, dIx_l, dIx_t, bInt_i, bInt_b, bLen_l, bLen_t, bAbs_i, bMax_i, bMax_3, bMin_i, bTup_l, bTup_t, bIsqrt_i, dIsB_ii, dIsB_ib, dIsB_tt, dIsB_ll, kit_ii, kit_ib, kit_tt, kit_ll, List.map_cons, List.map_nil, List.length_cons, List.length_nil, List.replicate_succ, List.replicate_zero, List.append_nil, List.nil_append, List.cons_append, List.getElem?_cons_zero, List.getElem?_cons_succ, List.set_cons_zero, List.set_cons_succ, List.length_map, Nat.reduceAdd, Nat.reduceSub, Nat.zero_add, Nat.add_zero, Nat.sub_self, true_and, and_true, decide_eq_true_eq, Bool.false_eq_true, Bool.not_eq_true', Bool.not_true, Bool.not_false, decide_eq_false_iff_not, if_true, if_false, ite_true, ite_false, eq_self_iff_true, Int.reduceLT, Int.reduceLE, reduceCtorEq, wF, dotB, at3_0, at3_1, at3_2]
  exact ⟨s1.mulOk t1 h, s2.mulOk t2 h, s3.mulOk t3 h, q⟩

/-! ### sums -/
theorem sum_le {α : Type} {f g : α → Int} : ∀ {xs : List α}, (∀ k ∈ xs, f k ≤ g k) → (xs.map f).sum ≤ (xs.map g).sum
  | [], _ => Int.le_refl _
  | a :: r, h => by
    simp only [List.map_cons, List.sum_cons]
    have := h a List.mem_cons_self
    have := sum_le (f := f) (g := g) (xs := r) fun k hk => h k (List.mem_cons_of_mem _ hk)
    omega
theorem sum_mul {α : Type} {f : α → Int} (m : Int) : ∀ (xs : List α), (xs.map fun k => f k * m).sum = (xs.map f).sum * m
  | [] => by simp
  | a :: r => by
    simp only [List.map_cons, List.sum_cons]
    rw [sum_mul m r, Int.add_mul]
theorem sum_lin {α : Type} {w p q s : α → Int} (a b c : Int) : ∀ (xs : List α), (xs.map fun k => w k * (a * p k + b * q k + c * s k)).sum = a * (xs.map fun k => w k * p k).sum + b * (xs.map fun k => w k * q k).sum + c * (xs.map fun k => w k * s k).sum
  | [] => by simp
  | x :: r => by
    simp only [List.map_cons, List.sum_cons]
    rw [sum_lin a b c r]
    grind
theorem sum_bd {α : Type} {f : α → Int} {B : Int} : ∀ {xs : List α}, (∀ k ∈ xs, -B ≤ f k ∧ f k ≤ B) → -(B * xs.length) ≤ (xs.map f).sum ∧ (xs.map f).sum ≤ B * xs.length
  | [], _ => by simp
  | a :: r, h => by
    have h1 := h a List.mem_cons_self
    have h2 := sum_bd (f := f) (B := B) (xs := r) fun k hk => h k (List.mem_cons_of_mem _ hk)
    simp only [List.map_cons, List.sum_cons, List.length_cons, Int.natCast_add, Int.mul_add]
    omega
end Tr

namespace Tr
open PySem PySem.Spec PyProof.Rows L2

/-! ### vectors, coordinate by coordinate -/
def minusB : List IS := [.ret (.tup [.bin .Sub (.ix (.var 0) (.cst (.int 0))) (.ix (.var 1) (.cst (.int 0))), .bin .Sub (.ix (.var 0) (.cst (.int 1))) (.ix (.var 1) (.cst (.int 1))), .bin .Sub (.ix (.var 0) (.cst (.int 2))) (.ix (.var 1) (.cst (.int 2)))])]
def plusB : List IS := [.ret (.tup [.bin .Add (.ix (.var 0) (.cst (.int 0))) (.ix (.var 1) (.cst (.int 0))), .bin .Add (.ix (.var 0) (.cst (.int 1))) (.ix (.var 1) (.cst (.int 1))), .bin .Add (.ix (.var 0) (.cst (.int 2))) (.ix (.var 1) (.cst (.int 2)))])]
def scaledB : List IS := [.ret (.tup [.bin .Mult (.ix (.var 0) (.cst (.int 0))) (.var 1), .bin .Mult (.ix (.var 0) (.cst (.int 1))) (.var 1), .bin .Mult (.ix (.var 0) (.cst (.int 2))) (.var 1)])]
theorem plus_ok {M : Sm} {a b c x y z : Int} {P : D → Prop} {E : Exc → Prop} (q : P (v3 (a + x) (b + y) (c + z))) : wF 2 2 (semB M plusB) [v3 a b c, v3 x y z] P E := by
  refine wF_of rfl ?_
  ((try simp only [semB, semS, semE, semA, semL, semT, semC, semI, semG, semGs, cmpD, binD, biD, plusB, ix_v0, ix_v1, ix_v2]); (try simp only [sSeq, sIf, sSet, sRet, sRetN, sExpr, sNil, sBrk, sCnt, sFor, sNew, sApp, sPut, sFrz, ownL, gN, gT, wTst, wTru, wAnd, wOr, wNot, wAndV, wOrV, wNotV, wIf, wChain, wLinks, w2, w1, wVar, wC, wN, wCons, wNil, wTup, wLst, wIxO, wLenO, wRg1, wRg2, wTupI, wLstI, slots0, wLc, noOwn, wYes, wipeR, List.map_cons, List.map_nil, List.length_cons, List.length_nil, List.replicate_succ, List.replicate_zero, List.append_nil, List.nil_append, List.cons_append, List.getElem?_cons_zero, List.getElem?_cons_succ, List.set_cons_zero, List.set_cons_succ, List.length_map, Nat.reduceAdd, Nat.reduceSub, Nat.zero_add, Nat.add_zero, Nat.sub_self, plusB, ix_v0, ix_v1, ix_v2]); (try simp only [isInt, isLst, isTup, isTru, dTru, lcL, gN, wYes, List.all_cons, List.all_nil, bAll, bSum, allBl, allI, Option.map_some, Bool.and_self, Bool.and_true, Bool.true_and, wTst, wTru, wAnd, wOr, wNot, wAndV, wOrV, wNotV, wIf, w2, w1, wVar, wC, wN, wCons, wNil, wTup, dEq_i, dNe_i, dEq_b, dNe_b, dLt_i, dLe_i, dGt_i, dGe_i, dAdd_i, dSub_i, dMul_i, dDiv_i, dMod_i, dPow_i, dShl_i, dShr_i, dNeg_i, dIs_b, dIx_l, dIx_t, bInt_i, bInt_b, bLen_l, bLen_t, bAbs_i, bMax_i, bMax_3, bMin_i, bTup_l, bTup_t, bIsqrt_i, dIsB_ii, dIsB_ib, dIsB_tt, dIsB_ll, kit_ii, kit_ib, kit_tt, kit_ll, Int.reduceEq, Int.cast_ofNat_Int, ne_eq, not_true_eq_false, not_false_eq_true, Nat.reduceLeDiff, Nat.reduceLT, List.map_cons, List.map_nil, List.length_cons, List.length_nil, List.replicate_succ, List.replicate_zero, List.append_nil, List.nil_append, List.cons_append, List.getElem?_cons_zero, List.getElem?_cons_succ, List.set_cons_zero, List.set_cons_succ, List.length_map, Nat.reduceAdd, Nat.reduceSub, Nat.zero_add, Nat.add_zero, Nat.sub_self, true_and, and_true, decide_eq_true_eq, Bool.false_eq_true, Bool.not_eq_true', Bool.not_true, Bool.not_false, decide_eq_false_iff_not, if_true, if_false, ite_true, ite_false, eq_self_iff_true, Int.reduceLT, Int.reduceLE, reduceCtorEq, plusB, ix_v0, ix_v1, ix_v2]))
  exact ⟨by decide, q⟩
theorem minus_ok {M : Sm} {a b c x y z : Int} {P : D → Prop} {E : Exc → Prop} (q : P (v3 (a - x) (b - y) (c - z))) : wF 2 2 (semB M minusB) [v3 a b c, v3 x y z] P E := by
  refine wF_of rfl ?_
  ((try simp only [semB, semS, semE, semA, semL, semT, semC, semI, semG, semGs, cmpD, binD, biD, minusB, ix_v0, ix_v1, ix_v2]); (try simp only [sSeq, sIf, sSet, sRet, sRetN, sExpr, sNil, sBrk, sCnt, sFor, sNew, sApp, sPut, sFrz, ownL, gN, gT, wTst, wTru, wAnd, wOr, wNot, wAndV, wOrV, wNotV, wIf, wChain, wLinks, w2, w1, wVar, wC, wN, wCons, wNil, wTup, wLst, wIxO, wLenO, wRg1, wRg2, wTupI, wLstI, slots0, wLc, noOwn, wYes, wipeR, List.map_cons, List.map_nil, List.length_cons, List.length_nil, List.replicate_succ, List.replicate_zero, List.append_nil, List.nil_append, List.cons_append, List.getElem?_cons_zero, List.getElem?_cons_succ, List.set_cons_zero, List.set_cons_succ, List.length_map, Nat.reduceAdd, Nat.reduceSub, Nat.zero_add, Nat.add_zero, Nat.sub_self, minusB, ix_v0, ix_v1, ix_v2]); (try simp only [isInt, isLst, isTup, isTru, dTru, lcL, gN, wYes, List.all_cons, List.all_nil, bAll, bSum, allBl, allI, Option.map_some, Bool.and_self, Bool.and_true, Bool.true_and, wTst, wTru, wAnd, wOr, wNot, wAndV, wOrV, wNotV, wIf, w2, w1, wVar, wC, wN, wCons, wNil, wTup, dEq_i, dNe_i, dEq_b, dNe_b, dLt_i, dLe_i, dGt_i, dGe_i, dAdd_i, dSub_i, dMul_i, dDiv_i, dMod_i, dPow_i, dShl_i, dShr_i, dNeg_i, dIs_b, dIx_l, dIx_t, bInt_i, bInt_b, bLen_l, bLen_t, bAbs_i, bMax_i, bMax_3, bMin_i, bTup_l, bTup_t, bIsqrt_i, dIsB_ii, dIsB_ib, dIsB_tt, dIsB_ll, kit_ii, kit_ib, kit_tt, kit_ll, Int.reduceEq, Int.cast_ofNat_Int, ne_eq, not_true_eq_false, not_false_eq_true, Nat.reduceLeDiff, Nat.reduceLT, List.map_cons, List.map_nil, List.length_cons, List.length_nil, List.replicate_succ, List.replicate_zero, List.append_nil, List.nil_append, List.cons_append, List.getElem?_cons_zero, List.getElem?_cons_succ, List.set_cons_zero, List.set_cons_succ, List.length_map, Nat.reduceAdd, Nat.reduceSub, Nat.zero_add, Nat.add_zero, Nat.sub_self, true_and, and_true, decide_eq_true_eq, Bool.false_eq_true, Bool.not_eq_true', Bool.not_true, Bool.not_false, decide_eq_false_iff_not, if_true, if_false, ite_true, ite_false, eq_self_iff_true, Int.reduceLT, Int.reduceLE, reduceCtorEq, minusB, ix_v0, ix_v1, ix_v2]))
  exact ⟨by decide, q⟩
theorem scaled_ok {M : Sm} {a b c f : Int} {m n : Nat} {P : D → Prop} {E : Exc → Prop} (h1 : Sz3 a b c m) (h2 : Sz f n) (h : m + n ≤ 999000) (q : P (v3 (a * f) (b * f) (c * f))) : wF 2 2 (semB M scaledB) [v3 a b c, .int f] P E := by
  refine wF_of rfl ?_
  have m1 := h1.1.mulOk h2 h
  have m2 := h1.2.1.mulOk h2 h
  have m3 := h1.2.2.mulOk h2 h
  ((try simp only [semB, semS, semE, semA, semL, semT, semC, semI, semG, semGs, cmpD, binD, biD, scaledB, ix_v0, ix_v1, ix_v2, m1, m2, m3]); (try simp only [sSeq, sIf, sSet, sRet, sRetN, sExpr, sNil, sBrk, sCnt, sFor, sNew, sApp, sPut, sFrz, ownL, gN, gT, wTst, wTru, wAnd, wOr, wNot, wAndV, wOrV, wNotV, wIf, wChain, wLinks, w2, w1, wVar, wC, wN, wCons, wNil, wTup, wLst, wIxO, wLenO, wRg1, wRg2, wTupI, wLstI, slots0, wLc, noOwn, wYes, wipeR, List.map_cons, List.map_nil, List.length_cons, List.length_nil, List.replicate_succ, List.replicate_zero, List.append_nil, List.nil_append, List.cons_append, List.getElem?_cons_zero, List.getElem?_cons_succ, List.set_cons_zero, List.set_cons_succ, List.length_map, Nat.reduceAdd, Nat.reduceSub, Nat.zero_add, Nat.add_zero, Nat.sub_self, scaledB, ix_v0, ix_v1, ix_v2, m1, m2, m3]); (try simp only [isInt, isLst, isTup, isTru, dTru, lcL, gN, wYes, List.all_cons, List.all_nil, bAll, bSum, allBl, allI, Option.map_some, Bool.and_self, Bool.and_true, Bool.true_and, wTst, wTru, wAnd, wOr, wNot, wAndV, wOrV, wNotV, wIf, w2, w1, wVar, wC, wN, wCons, wNil, wTup, dEq_i, dNe_i, dEq_b, dNe_b, dLt_i, dLe_i, dGt_i, dGe_i, dAdd_i, dSub_i, dMul_i, dDiv_i, dMod_i, dPow_i, dShl_i, dShr_i, dNeg_i, dIs_b, dIx_l, dIx_t, bInt_i, bInt_b, bLen_l, bLen_t, bAbs_i, bMax_i, bMax_3, bMin_i, bTup_l, bTup_t, bIsqrt_i, dIsB_ii, dIsB_ib, dIsB_tt, dIsB_ll, kit_ii, kit_ib, kit_tt, kit_ll, Int.reduceEq, Int.cast_ofNat_Int, ne_eq, not_true_eq_false, not_false_eq_true, Nat.reduceLeDiff, Nat.reduceLT, List.map_cons, List.map_nil, List.length_cons, List.length_nil, List.replicate_succ, List.replicate_zero, List.append_nil, List.nil_append, List.cons_append, List.getElem?_cons_zero, List.getElem?_cons_succ, List.set_cons_zero, List.set_cons_succ, List.length_map, Nat.reduceAdd, Nat.reduceSub, Nat.zero_add, Nat.add_zero, Nat.sub_self, true_and, and_true, decide_eq_true_eq, Bool.false_eq_true, Bool.not_eq_true', Bool.not_true, Bool.not_false, decide_eq_false_iff_not, if_true, if_false, ite_true, ite_false, eq_self_iff_true, Int.reduceLT, Int.reduceLE, reduceCtorEq, scaledB, ix_v0, ix_v1, ix_v2, m1, m2, m3]))
  exact ⟨by decide, q⟩
theorem Sz3.sub {a b c x y z : Int} {m n : Nat} (h1 : Sz3 a b c m) (h2 : Sz3 x y z n) : Sz3 (a - x) (b - y) (c - z) (max m n + 1) := ⟨h1.1.sub h2.1, h1.2.1.sub h2.2.1, h1.2.2.sub h2.2.2⟩
theorem Sz3.add {a b c x y z : Int} {m n : Nat} (h1 : Sz3 a b c m) (h2 : Sz3 x y z n) : Sz3 (a + x) (b + y) (c + z) (max m n + 1) := ⟨h1.1.add h2.1, h1.2.1.add h2.2.1, h1.2.2.add h2.2.2⟩
theorem Sz3.mul {a b c f : Int} {m n : Nat} (h1 : Sz3 a b c m) (h2 : Sz f n) : Sz3 (a * f) (b * f) (c * f) (m + n) := ⟨h1.1.mul h2, h1.2.1.mul h2, h1.2.2.mul h2⟩
theorem Sz3.mono {a b c : Int} {m n : Nat} (h : Sz3 a b c m) (q : m ≤ n) : Sz3 a b c n := ⟨h.1.mono q, h.2.1.mono q, h.2.2.mono q⟩
theorem is_int_ok' {M : Sm} {i : Int} {P : D → Prop} {E : Exc → Prop} (q : P (.bl true)) : wF 1 1 (semB M [.ret (.and (.isB "int" (.var 0)) (.not (.isB "bool" (.var 0))))]) [.int i] P E := by
  refine wF_of rfl ?_
  ((try simp only [semB, semS, semE, semA, semL, semT, semC, semI, semG, semGs, cmpD, binD, biD]); (try simp only [sSeq, sIf, sSet, sRet, sRetN, sExpr, sNil, sBrk, sCnt, sFor, sNew, sApp, sPut, sFrz, ownL, gN, gT, wTst, wTru, wAnd, wOr, wNot, wAndV, wOrV, wNotV, wIf, wChain, wLinks, w2, w1, wVar, wC, wN, wCons, wNil, wTup, wLst, wIxO, wLenO, wRg1, wRg2, wTupI, wLstI, slots0, wLc, noOwn, wYes, wipeR, List.map_cons, List.map_nil, List.length_cons, List.length_nil, List.replicate_succ, List.replicate_zero, List.append_nil, List.nil_append, List.cons_append, List.getElem?_cons_zero, List.getElem?_cons_succ, List.set_cons_zero, List.set_cons_succ, List.length_map, Nat.reduceAdd, Nat.reduceSub, Nat.zero_add, Nat.add_zero, Nat.sub_self]); (try simp only [isInt, isLst, isTup, isTru, dTru, lcL, gN, wYes, List.all_cons, List.all_nil, bAll, bSum, allBl, allI, Option.map_some, Bool.and_self, Bool.and_true, Bool.true_and, wTst, wTru, wAnd, wOr, wNot, wAndV, wOrV, wNotV, wIf, w2, w1, wVar, wC, wN, wCons, wNil, wTup, dEq_i, dNe_i, dEq_b, dNe_b, dLt_i, dLe_i, dGt_i, dGe_i, dAdd_i, dSub_i, dMul_i, dDiv_i, dMod_i, dPow_i, dShl_i, dShr_i, dNeg_i, dIs_b, dIx_l, dIx_t, bInt_i, bInt_b, bLen_l, bLen_t, bAbs_i, bMax_i, bMax_3, bMin_i, bTup_l, bTup_t, bIsqrt_i, dIsB_ii, dIsB_ib, dIsB_tt, dIsB_ll, kit_ii, kit_ib, kit_tt, kit_ll, Int.reduceEq, Int.cast_ofNat_Int, ne_eq, not_true_eq_false, not_false_eq_true, Nat.reduceLeDiff, Nat.reduceLT, List.map_cons, List.map_nil, List.length_cons, List.length_nil, List.replicate_succ, List.replicate_zero, List.append_nil, List.nil_append, List.cons_append, List.getElem?_cons_zero, List.getElem?_cons_succ, List.set_cons_zero, List.set_cons_succ, List.length_map, Nat.reduceAdd, Nat.reduceSub, Nat.zero_add, Nat.add_zero, Nat.sub_self, true_and, and_true, decide_eq_true_eq, Bool.false_eq_true, Bool.not_eq_true', Bool.not_true, Bool.not_false, decide_eq_false_iff_not, if_true, if_false, ite_true, ite_false, eq_self_iff_true, Int.reduceLT, Int.reduceLE, reduceCtorEq]))
  exact q
theorem is_vec_ok' {M : Sm} {a b c : Int} {P : D → Prop} {E : Exc → Prop} (q : P (.bl true)) : wF 1 2 (semB M [.iff (.or (.not (.val (.isB "tuple" (.var 0)))) (.cmp .NotEq (.blt .len [.var 0]) (.cst (.int 3)))) [.ret (.cst (.bl false))] [], .ret (.blt .all [.lc [("part", 1)] (.nm 1) (.tup (.var 0)) [] (.and (.isB "int" (.var 1)) (.not (.isB "bool" (.var 1))))])]) [v3 a b c] P E := by
  refine wF_of rfl ?_
  ((try simp only [semB, semS, semE, semA, semL, semT, semC, semI, semG, semGs, cmpD, binD, biD, v3]); (try simp only [sSeq, sIf, sSet, sRet, sRetN, sExpr, sNil, sBrk, sCnt, sFor, sNew, sApp, sPut, sFrz, ownL, gN, gT, wTst, wTru, wAnd, wOr, wNot, wAndV, wOrV, wNotV, wIf, wChain, wLinks, w2, w1, wVar, wC, wN, wCons, wNil, wTup, wLst, wIxO, wLenO, wRg1, wRg2, wTupI, wLstI, slots0, wLc, noOwn, wYes, wipeR, List.map_cons, List.map_nil, List.length_cons, List.length_nil, List.replicate_succ, List.replicate_zero, List.append_nil, List.nil_append, List.cons_append, List.getElem?_cons_zero, List.getElem?_cons_succ, List.set_cons_zero, List.set_cons_succ, List.length_map, Nat.reduceAdd, Nat.reduceSub, Nat.zero_add, Nat.add_zero, Nat.sub_self, v3]); (try simp only [isInt, isLst, isTup, isTru, dTru, lcL, gN, wYes, List.all_cons, List.all_nil, bAll, bSum, allBl, allI, Option.map_some, Bool.and_self, Bool.and_true, Bool.true_and, wTst, wTru, wAnd, wOr, wNot, wAndV, wOrV, wNotV, wIf, w2, w1, wVar, wC, wN, wCons, wNil, wTup, dEq_i, dNe_i, dEq_b, dNe_b, dLt_i, dLe_i, dGt_i, dGe_i, dAdd_i, dSub_i, dMul_i, dDiv_i, dMod_i, dPow_i, dShl_i, dShr_i, dNeg_i, dIs_b, dIx_l, dIx_t, bInt_i, bInt_b, bLen_l, bLen_t, bAbs_i, bMax_i, bMax_3, bMin_i, bTup_l, bTup_t, bIsqrt_i, dIsB_ii, dIsB_ib, dIsB_tt, dIsB_ll, kit_ii, kit_ib, kit_tt, kit_ll, Int.reduceEq, Int.cast_ofNat_Int, ne_eq, not_true_eq_false, not_false_eq_true, Nat.reduceLeDiff, Nat.reduceLT, List.map_cons, List.map_nil, List.length_cons, List.length_nil, List.replicate_succ, List.replicate_zero, List.append_nil, List.nil_append, List.cons_append, List.getElem?_cons_zero, List.getElem?_cons_succ, List.set_cons_zero, List.set_cons_succ, List.length_map, Nat.reduceAdd, Nat.reduceSub, Nat.zero_add, Nat.add_zero, Nat.sub_self, true_and, and_true, decide_eq_true_eq, Bool.false_eq_true, Bool.not_eq_true', Bool.not_true, Bool.not_false, decide_eq_false_iff_not, if_true, if_false, ite_true, ite_false, eq_self_iff_true, Int.reduceLT, Int.reduceLE, reduceCtorEq, v3]))
  exact ⟨by decide, by decide, by decide, q⟩
/-- a third of a row's vectors and the like: whole division by a small number -/
theorem div_sm {q d : Int} (h : 0 < d) (h2 : d < 2 ^ 59) : CDivW q d := L2.wide_div (b := 60) h (show Sz d 60 by unfold Sz; omega) (by decide) (by decide)
theorem mod_bd (t m : Int) (h : 0 < m) : 0 ≤ t % m ∧ t % m < m := ⟨Int.emod_nonneg _ (by omega), Int.emod_lt_of_pos _ h⟩
end Tr

namespace Tr.Geo
/-! ### the shortest difference of two lines, by six inner products: W = P0 - Q0, U = P1 - P0, V = Q1 - Q0 -/
structure S6 where
  ww : Int
  wu : Int
  wv : Int
  uu : Int
  uv : Int
  vv : Int
/-- the square of x W + y U + z V -/
def S6.q (s : S6) (x y z : Int) : Int := x * x * s.ww + 2 * (x * y * s.wu) + 2 * (x * z * s.wv) + y * y * s.uu + 2 * (y * z * s.uv) + z * z * s.vv
def S6.Inner (s : S6) : Prop := (0 < s.uv * s.wv - s.vv * s.wu ∧ s.uv * s.wv - s.vv * s.wu < s.uu * s.vv - s.uv * s.uv) ∧ (0 < s.uu * s.wv - s.uv * s.wu ∧ s.uu * s.wv - s.uv * s.wu < s.uu * s.vv - s.uv * s.uv)
/-- nothing on the border is shorter -/
def S6.Bd (s : S6) (N c : Int) : Prop := ∀ m l : Int, 0 < m → 0 ≤ l → l ≤ m → N * (m * m) ≤ s.q m 0 (-l) * (c * c) ∧ N * (m * m) ≤ s.q m m (-l) * (c * c) ∧ N * (m * m) ≤ s.q m l 0 * (c * c) ∧ N * (m * m) ≤ s.q m l (-m) * (c * c)
/-- the gap of the first end and the second line: c W - t V -/
def S6.Ec (s : S6) (c t : Int) : Prop := (s.wv ≤ 0 ∧ c = 1 ∧ t = 0) ∨ (0 < s.wv ∧ s.vv ≤ s.wv ∧ c = 1 ∧ t = 1) ∨ (0 < s.wv ∧ s.wv < s.vv ∧ c = s.vv ∧ t = s.wv)
def S6.N (s : S6) (c t : Int) : Int := c * c * s.ww - 2 * (c * t * s.wv) + t * t * s.vv
/-- in no corner does the difference lead on -/
def S6.Vi (s : S6) (c t : Int) : Prop := ∀ i j : Int, (i = 0 ∨ i = 1) → (j = 0 ∨ j = 1) → s.N c t ≤ c * (c * s.ww - t * s.wv + i * (c * s.wu - t * s.uv) - j * (c * s.wv - t * s.vv))
theorem lin_nonneg {a b : Int} (hb : 0 ≤ b) (h : 0 ≤ 2 * ((b + 1) * a) + b) : 0 ≤ a := by
  apply Int.not_lt.mp
  intro k
  have : (b + 1) * a ≤ (b + 1) * (-1) := Int.mul_le_mul_of_nonneg_left (by omega) (by omega)
  omega
theorem edge_min {s : S6} {c t : Int} (hv : 0 ≤ s.vv) (h : s.Ec c t) {m l : Int} (hm : 0 < m) (h0 : 0 ≤ l) (h1 : l ≤ m) : s.N c t * (m * m) ≤ s.q m 0 (-l) * (c * c) := by
  unfold S6.N S6.q
  have e0 : 0 ≤ l * (m - l) := Int.mul_nonneg h0 (by omega)
  rcases h with ⟨a, rfl, rfl⟩ | ⟨a, b, rfl, rfl⟩ | ⟨a, b, rfl, rfl⟩
  · have h2 : 0 ≤ (m * l) * (-s.wv) := Int.mul_nonneg (Int.mul_nonneg (by omega) h0) (by omega)
    have h3 : 0 ≤ l * l * s.vv := Int.mul_nonneg (Int.mul_nonneg h0 h0) hv
    grind
  · have h2 : 0 ≤ (m * (m - l)) * (s.wv - s.vv) := Int.mul_nonneg (Int.mul_nonneg (by omega) (by omega)) (by omega)
    have h3 : 0 ≤ (m - l) * (m - l) * s.vv := Int.mul_nonneg (Int.mul_nonneg (by omega) (by omega)) hv
    grind
  · have h3 : 0 ≤ (l * s.vv - m * s.wv) * (l * s.vv - m * s.wv) * s.vv := by
      refine Int.mul_nonneg ?_ hv
      rw [← Int.natAbs_mul_self' (l * s.vv - m * s.wv)]
      exact Int.mul_nonneg (by omega) (by omega)
    grind
theorem vi_edge {s : S6} {c t : Int} (hu : 0 ≤ s.uu) (hv : 0 ≤ s.vv) (h : s.Ec c t) (bd : s.Bd (s.N c t) c) (ni : ¬ s.Inner) : s.Vi c t := by
  rcases h with ⟨a, rfl, rfl⟩ | ⟨a, b, rfl, rfl⟩ | ⟨a, b, hc, ht⟩
  · have k := (bd (s.uu + 1) 1 (by omega) (by omega) (by omega)).2.2.1
    have wu0 : 0 ≤ s.wu := by
      refine lin_nonneg hu ?_
      unfold S6.N S6.q at k
      grind
    intro i j hi hj
    unfold S6.N
    rcases hi with rfl | rfl <;> rcases hj with rfl | rfl <;> omega
  · have k := (bd (s.uu + 1) 1 (by omega) (by omega) (by omega)).2.2.2
    have wu0 : 0 ≤ s.wu - s.uv := by
      refine lin_nonneg hu ?_
      unfold S6.N S6.q at k
      grind
    intro i j hi hj
    unfold S6.N
    rcases hi with rfl | rfl <;> rcases hj with rfl | rfl <;> omega
  · obtain ⟨ww, wu, wv, uu, uv, vv⟩ := s
    simp only at hu hv a b hc ht
    subst hc ht
    have gu : 0 ≤ c * wu - t * uv := by
      apply Int.not_lt.mp
      intro kn
      obtain ⟨k, hk⟩ : ∃ k, k = t * uv - c * wu := ⟨_, rfl⟩
      obtain ⟨n, hn⟩ : ∃ n, n = uu * c - uv * uv := ⟨_, rfl⟩
      have k0 : 0 < k := by omega
      -- the inner gap
      have inner : 0 < n → k < n → 0 < n * t + k * uv → n * t + k * uv < n * c → False := fun n0 h1 h2 h3 => by
        refine ni ⟨⟨?_, ?_⟩, ?_⟩
        · show 0 < uv * t - c * wu
          rw [Int.mul_comm uv t]; omega
        · show uv * t - c * wu < uu * c - uv * uv
          rw [Int.mul_comm uv t]; omega
        · have e : (uu * t - uv * wu) * c = n * t + k * uv := by rw [hn, hk]; grind
          have c0 : 0 < c := by omega
          refine ⟨?_, ?_⟩
          · show 0 < uu * t - uv * wu
            apply Int.not_le.mp
            intro z
            have := Int.mul_le_mul_of_nonneg_right z (Int.le_of_lt c0)
            omega
          · show uu * t - uv * wu < uu * c - uv * uv
            rw [← hn]
            apply Int.not_le.mp
            intro z
            have := Int.mul_le_mul_of_nonneg_right z (Int.le_of_lt c0)
            omega
      by_cases hA : 0 ≤ uv
      · by_cases hB : uv ≤ c - t
        · -- the other end's edge
          have z := (bd c (t + uv) (by omega) (by omega) (by omega)).2.1
          have z2 : 0 ≤ c * c * c * (n - 2 * k) := by
            unfold S6.N S6.q at z
            simp only at z
            rw [hn, hk]
            grind
          have z3 : 0 ≤ n - 2 * k := by
            apply Int.not_lt.mp
            intro y
            have := Int.mul_neg_of_pos_of_neg (Int.mul_pos (Int.mul_pos (show 0 < c by omega) (show 0 < c by omega)) (show 0 < c by omega)) y
            omega
          have p1 : 0 ≤ k * uv := Int.mul_nonneg (by omega) hA
          have p2 : 0 < n * t := Int.mul_pos (by omega) (by omega)
          have p3 : k * uv ≤ k * (c - t) := Int.mul_le_mul_of_nonneg_left hB (by omega)
          have p4 : k * (c - t) < n * (c - t) := Int.mul_lt_mul_of_pos_right (by omega) (by omega)
          exact inner (by omega) (by omega) (by omega) (by have e := Int.mul_sub n c t; omega)
        · have z := (bd uv (c - t) (by omega) (by omega) (by omega)).2.2.2
          have z2 : 0 ≤ c * (c - t) * ((c - t) * n - 2 * (uv * k)) := by
            unfold S6.N S6.q at z
            simp only at z
            rw [hn, hk]
            grind
          have z3 : 0 ≤ (c - t) * n - 2 * (uv * k) := by
            apply Int.not_lt.mp
            intro y
            have := Int.mul_neg_of_pos_of_neg (Int.mul_pos (show 0 < c by omega) (show 0 < c - t by omega)) y
            omega
          have p0 : 0 < uv * k := Int.mul_pos (by omega) k0
          have n0 : 0 < n := by
            apply Int.not_le.mp
            intro y
            have := Int.mul_nonpos_of_nonneg_of_nonpos (show 0 ≤ c - t by omega) y
            omega
          have p1 : (c - t) * n < uv * n := Int.mul_lt_mul_of_pos_right (by omega) n0
          have p2 : k < n := by
            have : uv * k < uv * n := by omega
            exact Int.lt_of_mul_lt_mul_left this (by omega)
          have p3 : 0 < n * t := Int.mul_pos n0 (by omega)
          have c1 : uv * k = k * uv := Int.mul_comm _ _
          have c2 : (c - t) * n = n * c - n * t := by rw [Int.mul_comm, Int.mul_sub]
          exact inner n0 p2 (by omega) (by omega)
      · by_cases hB : -uv ≤ t
        · have z := (bd c (t + uv) (by omega) (by omega) (by omega)).2.1
          have z2 : 0 ≤ c * c * c * (n - 2 * k) := by
            unfold S6.N S6.q at z
            simp only at z
            rw [hn, hk]
            grind
          have z3 : 0 ≤ n - 2 * k := by
            apply Int.not_lt.mp
            intro y
            have := Int.mul_neg_of_pos_of_neg (Int.mul_pos (Int.mul_pos (show 0 < c by omega) (show 0 < c by omega)) (show 0 < c by omega)) y
            omega
          have p1 : k * (-uv) ≤ k * t := Int.mul_le_mul_of_nonneg_left hB (by omega)
          have p2 : k * t < n * t := Int.mul_lt_mul_of_pos_right (by omega) (by omega)
          have p3 : n * t < n * c := Int.mul_lt_mul_of_pos_left b (by omega)
          have p4 : 0 < k * (-uv) := Int.mul_pos k0 (by omega)
          have c1 : k * (-uv) = -(k * uv) := Int.mul_neg _ _
          exact inner (by omega) (by omega) (by omega) (by omega)
        · have z := (bd (-uv) t (by omega) (by omega) (by omega)).2.2.1
          have z2 : 0 ≤ c * t * (t * n - 2 * (-uv * k)) := by
            unfold S6.N S6.q at z
            simp only at z
            rw [hn, hk]
            grind
          have z3 : 0 ≤ t * n - 2 * (-uv * k) := by
            apply Int.not_lt.mp
            intro y
            have := Int.mul_neg_of_pos_of_neg (Int.mul_pos (show 0 < c by omega) (show 0 < t by omega)) y
            omega
          have p0 : 0 < -uv * k := Int.mul_pos (by omega) k0
          have n0 : 0 < n := by
            apply Int.not_le.mp
            intro y
            have := Int.mul_nonpos_of_nonneg_of_nonpos (show 0 ≤ t by omega) y
            omega
          have p1 : t * n < -uv * n := Int.mul_lt_mul_of_pos_right (by omega) n0
          have p2 : k < n := by
            have : -uv * k < -uv * n := by omega
            exact Int.lt_of_mul_lt_mul_left this (by omega)
          have c1 : -uv * k = -(k * uv) := by rw [Int.neg_mul, Int.mul_comm]
          have c2 : t * n = n * t := Int.mul_comm _ _
          have p3 : n * t < n * c := Int.mul_lt_mul_of_pos_left b n0
          exact inner n0 p2 (by omega) (by omega)
    intro i j hi hj
    unfold S6.N
    simp only
    have g1 : 0 ≤ c * (c * wu - t * uv) := Int.mul_nonneg hv gu
    rcases hi with rfl | rfl <;> rcases hj with rfl | rfl <;> grind

/-! ### the four borders as the first -/
def S6.f1 (s : S6) : S6 := ⟨s.ww + 2 * s.wu + s.uu, -(s.wu + s.uu), s.wv + s.uv, s.uu, -s.uv, s.vv⟩
def S6.f2 (s : S6) : S6 := ⟨s.ww, -s.wv, -s.wu, s.vv, s.uv, s.uu⟩
def S6.f3 (s : S6) : S6 := ⟨s.ww - 2 * s.wv + s.vv, s.wv - s.vv, -(s.wu - s.uv), s.vv, -s.uv, s.uu⟩
theorem q1 (s : S6) (x y z : Int) : s.f1.q x y z = s.q x (x - y) z := by unfold S6.q S6.f1; grind
theorem q2 (s : S6) (x y z : Int) : s.f2.q x y z = s.q x (-z) (-y) := by unfold S6.q S6.f2; grind
theorem q3 (s : S6) (x y z : Int) : s.f3.q x y z = s.q x (-z) (y - x) := by unfold S6.q S6.f3; grind
theorem in1 {s : S6} (h : s.f1.Inner) : s.Inner := by
  obtain ⟨⟨h1, h2⟩, h3, h4⟩ := h
  unfold S6.f1 at h1 h2 h3 h4
  simp only at h1 h2 h3 h4
  refine ⟨⟨?_, ?_⟩, ?_, ?_⟩ <;> grind
theorem in2 {s : S6} (h : s.f2.Inner) : s.Inner := by
  obtain ⟨⟨h1, h2⟩, h3, h4⟩ := h
  unfold S6.f2 at h1 h2 h3 h4
  simp only at h1 h2 h3 h4
  refine ⟨⟨?_, ?_⟩, ?_, ?_⟩ <;> grind
theorem in3 {s : S6} (h : s.f3.Inner) : s.Inner := by
  obtain ⟨⟨h1, h2⟩, h3, h4⟩ := h
  unfold S6.f3 at h1 h2 h3 h4
  simp only at h1 h2 h3 h4
  refine ⟨⟨?_, ?_⟩, ?_, ?_⟩ <;> grind
theorem bd1 {s : S6} {N c : Int} (h : s.Bd N c) : s.f1.Bd N c := fun m l hm h0 h1 => by
  have a := h m l hm h0 h1
  have b := h m (m - l) hm (by omega) (by omega)
  rw [q1, q1, q1, q1, Int.sub_zero, Int.sub_self]
  exact ⟨a.2.1, a.1, b.2.2.1, b.2.2.2⟩
theorem bd2 {s : S6} {N c : Int} (h : s.Bd N c) : s.f2.Bd N c := fun m l hm h0 h1 => by
  have a := h m l hm h0 h1
  rw [q2, q2, q2, q2, Int.neg_neg, Int.neg_zero, Int.neg_neg]
  exact ⟨a.2.2.1, a.2.2.2, a.1, a.2.1⟩
theorem bd3 {s : S6} {N c : Int} (h : s.Bd N c) : s.f3.Bd N c := fun m l hm h0 h1 => by
  have a := h m l hm h0 h1
  have b := h m (m - l) hm (by omega) (by omega)
  rw [q3, q3, q3, q3, Int.neg_neg, Int.neg_zero, Int.neg_neg, Int.zero_sub, Int.sub_self]
  rw [show l - m = -(m - l) by omega]
  exact ⟨a.2.2.2, a.2.2.1, b.1, b.2.1⟩
theorem chain {N M q c d e : Int} (he : 0 ≤ e) (hd : 0 < d) (h1 : N * (d * d) ≤ M * (c * c)) (h2 : M * e ≤ q * (d * d)) : N * e ≤ q * (c * c) := by
  have d2 : 0 < d * d := Int.mul_pos hd hd
  have c2 : 0 ≤ c * c := by
    rw [← Int.natAbs_mul_self' c]
    exact Int.mul_nonneg (by omega) (by omega)
  have a1 := Int.mul_le_mul_of_nonneg_right h1 he
  have a2 := Int.mul_le_mul_of_nonneg_right h2 c2
  refine Int.le_of_mul_le_mul_right (a := d * d) ?_ d2
  have e1 : N * e * (d * d) = N * (d * d) * e := by grind
  have e2 : M * (c * c) * e = M * e * (c * c) := by grind
  have e3 : q * (c * c) * (d * d) = q * (d * d) * (c * c) := by grind
  omega
/-- a gap of a place and a line: W and V lead from the line's start to the place and to its end -/
def Cand (w1 w2 w3 v1 v2 v3 g1 g2 g3 c : Int) (wv vv : Int) : Prop := wv = w1 * v1 + w2 * v2 + w3 * v3 ∧ vv = v1 * v1 + v2 * v2 + v3 * v3 ∧
  ∃ t, ((wv ≤ 0 ∧ c = 1 ∧ t = 0) ∨ (0 < wv ∧ vv ≤ wv ∧ c = 1 ∧ t = 1) ∨ (0 < wv ∧ wv < vv ∧ c = vv ∧ t = wv)) ∧ g1 = c * w1 - t * v1 ∧ g2 = c * w2 - t * v2 ∧ g3 = c * w3 - t * v3
theorem Cand.neg {w1 w2 w3 v1 v2 v3 g1 g2 g3 c wv vv : Int} (h : Cand w1 w2 w3 v1 v2 v3 g1 g2 g3 c wv vv) : Cand (-w1) (-w2) (-w3) (-v1) (-v2) (-v3) (-g1) (-g2) (-g3) c wv vv := by
  obtain ⟨h1, h2, t, h3, rfl, rfl, rfl⟩ := h
  exact ⟨by rw [h1]; grind, by rw [h2]; grind, t, h3, by grind, by grind, by grind⟩
theorem Cand.pos {w1 w2 w3 v1 v2 v3 g1 g2 g3 c wv vv : Int} (h : Cand w1 w2 w3 v1 v2 v3 g1 g2 g3 c wv vv) : 0 < c := by
  obtain ⟨h1, h2, t, h3, _⟩ := h
  omega
def d3 (a b c x y z : Int) : Int := a * x + b * y + c * z
def s6 (w1 w2 w3 u1 u2 u3 v1 v2 v3 : Int) : S6 := ⟨d3 w1 w2 w3 w1 w2 w3, d3 w1 w2 w3 u1 u2 u3, d3 w1 w2 w3 v1 v2 v3, d3 u1 u2 u3 u1 u2 u3, d3 u1 u2 u3 v1 v2 v3, d3 v1 v2 v3 v1 v2 v3⟩
theorem s6_1 (w1 w2 w3 u1 u2 u3 v1 v2 v3 : Int) : s6 (w1 + u1) (w2 + u2) (w3 + u3) (-u1) (-u2) (-u3) v1 v2 v3 = (s6 w1 w2 w3 u1 u2 u3 v1 v2 v3).f1 := by
  unfold s6 S6.f1 d3
  simp only [S6.mk.injEq]
  refine ⟨?_, ?_, ?_, ?_, ?_, ?_⟩ <;> grind
theorem s6_2 (w1 w2 w3 u1 u2 u3 v1 v2 v3 : Int) : s6 w1 w2 w3 (-v1) (-v2) (-v3) (-u1) (-u2) (-u3) = (s6 w1 w2 w3 u1 u2 u3 v1 v2 v3).f2 := by
  unfold s6 S6.f2 d3
  simp only [S6.mk.injEq]
  refine ⟨?_, ?_, ?_, ?_, ?_, ?_⟩ <;> grind
theorem s6_3 (w1 w2 w3 u1 u2 u3 v1 v2 v3 : Int) : s6 (w1 - v1) (w2 - v2) (w3 - v3) v1 v2 v3 (-u1) (-u2) (-u3) = (s6 w1 w2 w3 u1 u2 u3 v1 v2 v3).f3 := by
  unfold s6 S6.f3 d3
  simp only [S6.mk.injEq]
  refine ⟨?_, ?_, ?_, ?_, ?_, ?_⟩ <;> grind
theorem sq_nonneg3 (a b c : Int) : 0 ≤ d3 a b c a b c := by
  have sq : ∀ x : Int, 0 ≤ x * x := fun x => by
    rw [← Int.natAbs_mul_self' x]
    exact Int.mul_nonneg (by omega) (by omega)
  have := sq a
  have := sq b
  have := sq c
  unfold d3
  omega
/-- what a frame's candidate is by the six products -/
theorem Cand.ec {w1 w2 w3 v1 v2 v3 g1 g2 g3 c wv vv : Int} (u1 u2 u3 : Int) (h : Cand w1 w2 w3 v1 v2 v3 g1 g2 g3 c wv vv) : ∃ t, (s6 w1 w2 w3 u1 u2 u3 v1 v2 v3).Ec c t ∧ d3 g1 g2 g3 g1 g2 g3 = (s6 w1 w2 w3 u1 u2 u3 v1 v2 v3).N c t ∧ ∀ i j : Int,
    d3 g1 g2 g3 (w1 + i * u1 - j * v1) (w2 + i * u2 - j * v2) (w3 + i * u3 - j * v3) = c * (s6 w1 w2 w3 u1 u2 u3 v1 v2 v3).ww - t * (s6 w1 w2 w3 u1 u2 u3 v1 v2 v3).wv + i * (c * (s6 w1 w2 w3 u1 u2 u3 v1 v2 v3).wu - t * (s6 w1 w2 w3 u1 u2 u3 v1 v2 v3).uv) - j * (c * (s6 w1 w2 w3 u1 u2 u3 v1 v2 v3).wv - t * (s6 w1 w2 w3 u1 u2 u3 v1 v2 v3).vv) := by
  obtain ⟨h1, h2, t, h3, rfl, rfl, rfl⟩ := h
  have e1 : (s6 w1 w2 w3 u1 u2 u3 v1 v2 v3).wv = wv := by rw [h1]; rfl
  have e2 : (s6 w1 w2 w3 u1 u2 u3 v1 v2 v3).vv = vv := by rw [h2]; rfl
  refine ⟨t, ?_, ?_, fun i j => ?_⟩
  · unfold S6.Ec
    rw [e1, e2]
    exact h3
  · unfold S6.N s6 d3
    simp only
    grind
  · unfold s6 d3
    simp only
    grind
/-- the shortest of the four, where there is none within -/
theorem lines {w1 w2 w3 u1 u2 u3 v1 v2 v3 : Int} {g1 g2 g3 c : Int}
    {a1 a2 a3 ca av aa b1 b2 b3 cb bv bb e1 e2 e3 ce ev ee f1 f2 f3 cf fv ff : Int}
    (h0 : Cand w1 w2 w3 v1 v2 v3 a1 a2 a3 ca av aa) (h1 : Cand (w1 + u1) (w2 + u2) (w3 + u3) v1 v2 v3 b1 b2 b3 cb bv bb) (h2 : Cand w1 w2 w3 (-u1) (-u2) (-u3) e1 e2 e3 ce ev ee) (h3 : Cand (w1 - v1) (w2 - v2) (w3 - v3) (-u1) (-u2) (-u3) f1 f2 f3 cf fv ff)
    (m0 : d3 g1 g2 g3 g1 g2 g3 * (ca * ca) ≤ d3 a1 a2 a3 a1 a2 a3 * (c * c)) (m1 : d3 g1 g2 g3 g1 g2 g3 * (cb * cb) ≤ d3 b1 b2 b3 b1 b2 b3 * (c * c)) (m2 : d3 g1 g2 g3 g1 g2 g3 * (ce * ce) ≤ d3 e1 e2 e3 e1 e2 e3 * (c * c)) (m3 : d3 g1 g2 g3 g1 g2 g3 * (cf * cf) ≤ d3 f1 f2 f3 f1 f2 f3 * (c * c))
    (hb : (g1 = a1 ∧ g2 = a2 ∧ g3 = a3 ∧ c = ca) ∨ (g1 = b1 ∧ g2 = b2 ∧ g3 = b3 ∧ c = cb) ∨ (g1 = e1 ∧ g2 = e2 ∧ g3 = e3 ∧ c = ce) ∨ (g1 = f1 ∧ g2 = f2 ∧ g3 = f3 ∧ c = cf))
    (ni : ¬ (s6 w1 w2 w3 u1 u2 u3 v1 v2 v3).Inner) (i j : Int) (hi : i = 0 ∨ i = 1) (hj : j = 0 ∨ j = 1) : d3 g1 g2 g3 g1 g2 g3 ≤ c * d3 g1 g2 g3 (w1 + i * u1 - j * v1) (w2 + i * u2 - j * v2) (w3 + i * u3 - j * v3) := by
  obtain ⟨ta, xa, na, ya⟩ := h0.ec u1 u2 u3
  obtain ⟨tb, xb, nb, yb⟩ := h1.ec (-u1) (-u2) (-u3)
  obtain ⟨te, xe, ne, ye⟩ := h2.ec (-v1) (-v2) (-v3)
  obtain ⟨tf, xf, nf, yf⟩ := h3.ec v1 v2 v3
  rw [s6_1] at xb nb yb
  rw [s6_2] at xe ne ye
  rw [s6_3] at xf nf yf
  have uu0 : 0 ≤ (s6 w1 w2 w3 u1 u2 u3 v1 v2 v3).uu := sq_nonneg3 _ _ _
  have vv0 : 0 ≤ (s6 w1 w2 w3 u1 u2 u3 v1 v2 v3).vv := sq_nonneg3 _ _ _
  generalize s6 w1 w2 w3 u1 u2 u3 v1 v2 v3 = s at *
  have bd : s.Bd (d3 g1 g2 g3 g1 g2 g3) c := fun m l hm hl0 hl1 => by
    have mm : 0 ≤ m * m := Int.mul_nonneg (by omega) (by omega)
    refine ⟨?_, ?_, ?_, ?_⟩
    · exact chain mm h0.pos m0 (by rw [na]; exact edge_min vv0 xa hm hl0 hl1)
    · have k := edge_min (s := s.f1) vv0 xb hm hl0 hl1
      rw [q1, Int.sub_zero] at k
      exact chain mm h1.pos m1 (by rw [nb]; exact k)
    · have k := edge_min (s := s.f2) uu0 xe hm hl0 hl1
      rw [q2, Int.neg_neg, Int.neg_zero] at k
      exact chain mm h2.pos m2 (by rw [ne]; exact k)
    · have k := edge_min (s := s.f3) uu0 xf hm hl0 hl1
      rw [q3, Int.neg_neg, Int.zero_sub] at k
      exact chain mm h3.pos m3 (by rw [nf]; exact k)
  have i' : 1 - i = 0 ∨ 1 - i = 1 := by omega
  have j' : 1 - j = 0 ∨ 1 - j = 1 := by omega
  rcases hb with ⟨rfl, rfl, rfl, rfl⟩ | ⟨rfl, rfl, rfl, rfl⟩ | ⟨rfl, rfl, rfl, rfl⟩ | ⟨rfl, rfl, rfl, rfl⟩
  · rw [na] at bd ⊢
    rw [ya]
    exact vi_edge uu0 vv0 xa bd ni i j hi hj
  · rw [nb] at bd ⊢
    have k := vi_edge (s := s.f1) uu0 vv0 xb (bd1 bd) (fun h => ni (in1 h)) (1 - i) j i' hj
    rw [← yb] at k
    rw [show w1 + i * u1 - j * v1 = w1 + u1 + (1 - i) * (-u1) - j * v1 by grind, show w2 + i * u2 - j * v2 = w2 + u2 + (1 - i) * (-u2) - j * v2 by grind, show w3 + i * u3 - j * v3 = w3 + u3 + (1 - i) * (-u3) - j * v3 by grind]
    exact k
  · rw [ne] at bd ⊢
    have k := vi_edge (s := s.f2) vv0 uu0 xe (bd2 bd) (fun h => ni (in2 h)) j i hj hi
    rw [← ye] at k
    rw [show w1 + i * u1 - j * v1 = w1 + j * (-v1) - i * (-u1) by grind, show w2 + i * u2 - j * v2 = w2 + j * (-v2) - i * (-u2) by grind, show w3 + i * u3 - j * v3 = w3 + j * (-v3) - i * (-u3) by grind]
    exact k
  · rw [nf] at bd ⊢
    have k := vi_edge (s := s.f3) vv0 uu0 xf (bd3 bd) (fun h => ni (in3 h)) (1 - j) i j' hi
    rw [← yf] at k
    rw [show w1 + i * u1 - j * v1 = w1 - v1 + (1 - j) * v1 - i * (-u1) by grind, show w2 + i * u2 - j * v2 = w2 - v2 + (1 - j) * v2 - i * (-u2) by grind, show w3 + i * u3 - j * v3 = w3 - v3 + (1 - j) * v3 - i * (-u3) by grind]
    exact k

/-! ### the gap within -/
theorem inner_min {w1 w2 w3 u1 u2 u3 v1 v2 v3 g1 g2 g3 n S T : Int} (e1 : g1 = n * w1 + S * u1 - T * v1) (e2 : g2 = n * w2 + S * u2 - T * v2) (e3 : g3 = n * w3 + S * u3 - T * v3) (gu : d3 g1 g2 g3 u1 u2 u3 = 0) (gv : d3 g1 g2 g3 v1 v2 v3 = 0)
    {c s t h1 h2 h3 : Int} (k1 : h1 = c * w1 + s * u1 - t * v1) (k2 : h2 = c * w2 + s * u2 - t * v2) (k3 : h3 = c * w3 + s * u3 - t * v3) : d3 g1 g2 g3 g1 g2 g3 * (c * c) ≤ d3 h1 h2 h3 h1 h2 h3 * (n * n) := by
  have p := sq_nonneg3 ((n * s - c * S) * u1 - (n * t - c * T) * v1) ((n * s - c * S) * u2 - (n * t - c * T) * v2) ((n * s - c * S) * u3 - (n * t - c * T) * v3)
  obtain ⟨l1, hl1⟩ : ∃ l, l = (n * s - c * S) * u1 - (n * t - c * T) * v1 := ⟨_, rfl⟩
  obtain ⟨l2, hl2⟩ : ∃ l, l = (n * s - c * S) * u2 - (n * t - c * T) * v2 := ⟨_, rfl⟩
  obtain ⟨l3, hl3⟩ : ∃ l, l = (n * s - c * S) * u3 - (n * t - c * T) * v3 := ⟨_, rfl⟩
  have b1 : n * h1 = c * g1 + l1 := by rw [hl1, k1, e1]; grind
  have b2 : n * h2 = c * g2 + l2 := by rw [hl2, k2, e2]; grind
  have b3 : n * h3 = c * g3 + l3 := by rw [hl3, k3, e3]; grind
  have gl : d3 g1 g2 g3 l1 l2 l3 = (n * s - c * S) * d3 g1 g2 g3 u1 u2 u3 - (n * t - c * T) * d3 g1 g2 g3 v1 v2 v3 := by rw [hl1, hl2, hl3]; unfold d3; grind
  rw [gu, gv, Int.mul_zero, Int.mul_zero, Int.sub_zero] at gl
  rw [← hl1, ← hl2, ← hl3] at p
  have e : d3 h1 h2 h3 h1 h2 h3 * (n * n) = d3 (n * h1) (n * h2) (n * h3) (n * h1) (n * h2) (n * h3) := by unfold d3; grind
  rw [e, b1, b2, b3]
  have e' : d3 (c * g1 + l1) (c * g2 + l2) (c * g3 + l3) (c * g1 + l1) (c * g2 + l2) (c * g3 + l3) = d3 g1 g2 g3 g1 g2 g3 * (c * c) + 2 * (c * d3 g1 g2 g3 l1 l2 l3) + d3 l1 l2 l3 l1 l2 l3 := by unfold d3; grind
  rw [e', gl]
  omega
theorem inner_ort (s : S6) : (s.uu * s.vv - s.uv * s.uv) * s.wu + (s.uv * s.wv - s.vv * s.wu) * s.uu - (s.uu * s.wv - s.uv * s.wu) * s.uv = 0 ∧ (s.uu * s.vv - s.uv * s.uv) * s.wv + (s.uv * s.wv - s.vv * s.wu) * s.uv - (s.uu * s.wv - s.uv * s.wu) * s.vv = 0 := by
  constructor <;> grind
theorem inner_g {w1 w2 w3 u1 u2 u3 v1 v2 v3 g1 g2 g3 n S T : Int} (hn : n = (s6 w1 w2 w3 u1 u2 u3 v1 v2 v3).uu * (s6 w1 w2 w3 u1 u2 u3 v1 v2 v3).vv - (s6 w1 w2 w3 u1 u2 u3 v1 v2 v3).uv * (s6 w1 w2 w3 u1 u2 u3 v1 v2 v3).uv)
    (hS : S = (s6 w1 w2 w3 u1 u2 u3 v1 v2 v3).uv * (s6 w1 w2 w3 u1 u2 u3 v1 v2 v3).wv - (s6 w1 w2 w3 u1 u2 u3 v1 v2 v3).vv * (s6 w1 w2 w3 u1 u2 u3 v1 v2 v3).wu)
    (hT : T = (s6 w1 w2 w3 u1 u2 u3 v1 v2 v3).uu * (s6 w1 w2 w3 u1 u2 u3 v1 v2 v3).wv - (s6 w1 w2 w3 u1 u2 u3 v1 v2 v3).uv * (s6 w1 w2 w3 u1 u2 u3 v1 v2 v3).wu)
    (e1 : g1 = n * w1 + S * u1 - T * v1) (e2 : g2 = n * w2 + S * u2 - T * v2) (e3 : g3 = n * w3 + S * u3 - T * v3) : d3 g1 g2 g3 u1 u2 u3 = 0 ∧ d3 g1 g2 g3 v1 v2 v3 = 0 ∧ ∀ i j : Int, d3 g1 g2 g3 g1 g2 g3 ≤ n * d3 g1 g2 g3 (w1 + i * u1 - j * v1) (w2 + i * u2 - j * v2) (w3 + i * u3 - j * v3) := by
  have o := inner_ort (s6 w1 w2 w3 u1 u2 u3 v1 v2 v3)
  rw [← hn, ← hS, ← hT] at o
  have a1 : d3 g1 g2 g3 u1 u2 u3 = n * d3 w1 w2 w3 u1 u2 u3 + S * d3 u1 u2 u3 u1 u2 u3 - T * d3 u1 u2 u3 v1 v2 v3 := by rw [e1, e2, e3]; unfold d3; grind
  have a2 : d3 g1 g2 g3 v1 v2 v3 = n * d3 w1 w2 w3 v1 v2 v3 + S * d3 u1 u2 u3 v1 v2 v3 - T * d3 v1 v2 v3 v1 v2 v3 := by rw [e1, e2, e3]; unfold d3; grind
  have z1 : d3 g1 g2 g3 u1 u2 u3 = 0 := a1.trans o.1
  have z2 : d3 g1 g2 g3 v1 v2 v3 = 0 := a2.trans o.2
  refine ⟨z1, z2, fun i j => ?_⟩
  have b1 : d3 g1 g2 g3 g1 g2 g3 = n * d3 g1 g2 g3 w1 w2 w3 + S * d3 g1 g2 g3 u1 u2 u3 - T * d3 g1 g2 g3 v1 v2 v3 := by
    have : d3 g1 g2 g3 (n * w1 + S * u1 - T * v1) (n * w2 + S * u2 - T * v2) (n * w3 + S * u3 - T * v3) = n * d3 g1 g2 g3 w1 w2 w3 + S * d3 g1 g2 g3 u1 u2 u3 - T * d3 g1 g2 g3 v1 v2 v3 := by unfold d3; grind
    rw [← e1, ← e2, ← e3] at this
    exact this
  have b2 : d3 g1 g2 g3 (w1 + i * u1 - j * v1) (w2 + i * u2 - j * v2) (w3 + i * u3 - j * v3) = d3 g1 g2 g3 w1 w2 w3 + i * d3 g1 g2 g3 u1 u2 u3 - j * d3 g1 g2 g3 v1 v2 v3 := by unfold d3; grind
  rw [b1, b2, z1, z2, Int.mul_zero, Int.mul_zero, Int.mul_zero, Int.mul_zero]
  simp only [Int.add_zero, Int.sub_zero]
  exact Int.le_refl _
theorem Cand.form {w1 w2 w3 v1 v2 v3 g1 g2 g3 c wv vv : Int} (h : Cand w1 w2 w3 v1 v2 v3 g1 g2 g3 c wv vv) : ∃ t, g1 = c * w1 - t * v1 ∧ g2 = c * w2 - t * v2 ∧ g3 = c * w3 - t * v3 := by
  obtain ⟨_, _, t, _, h⟩ := h
  exact ⟨t, h⟩
end Tr.Geo

namespace Tr
open PySem PySem.Spec PyProof.Rows L2
/-! ### loops read without their bodies (the kernel must not unfold them) -/
theorem isTup_d {ds : List D} {P : List D → Prop} : isTup (.tup ds) P = P ds := id rfl
theorem isLst_d {ds : List D} {P : List D → Prop} : isLst (.lst ds) P = P ds := id rfl
theorem isInt_d {i : Int} {P : Int → Prop} : isInt (.int i) P = P i := id rfl
section
variable {M : Sm} {g : IG} {e : IE} {b : List IS} {A : EndsD} {ρ : List Slot} {ds : List D} {n : Int}
theorem sfor_tp (he : ∀ (P : D → Prop) (E : Exc → Prop), P (.tup ds) → semE M e ρ P E) (h : forL (semG g) (semB M b) ds A ρ) : semS M (.for g (.tup e) b) A ρ := by
  simp only [semS, sFor, semI, wTupI]
  exact he _ _ (by rw [isTup_d]; exact h)
theorem sfor_ls (he : ∀ (P : D → Prop) (E : Exc → Prop), P (.lst ds) → semE M e ρ P E) (h : forL (semG g) (semB M b) ds A ρ) : semS M (.for g (.lst e) b) A ρ := by
  simp only [semS, sFor, semI, wLstI]
  exact he _ _ (by rw [isLst_d]; exact h)
theorem sfor_r (he : ∀ (P : D → Prop) (E : Exc → Prop), P (.int n) → semE M e ρ P E) (hn : small62 n) (h : forL (semG g) (semB M b) (rgD 0 n) A ρ) : semS M (.for g (.rg1 e) b) A ρ := by
  simp only [semS, sFor, semI, wRg1]
  exact he _ _ (by rw [isInt_d]; exact ⟨hn, h⟩)
theorem semG_n {i : Nat} {d : D} {P : List Slot → Prop} (h : P (ρ.set i (.val d))) : semG (.nm i) d ρ P := by
  simp only [semG, gN]
  exact h
theorem semB_1 {s : IS} (h : semS M s A ρ) : semB M [s] A ρ := h
theorem semB_c {s : IS} {r : List IS} (h : sSeq (semS M s) (semB M r) A ρ) : semB M (s :: r) A ρ := h
end
end Tr

namespace Tr
open PySem PySem.Spec PyProof.Rows L2

/-! ### zip; comprehensions that choose; tests of all -/
theorem zipD2 {α β : Type} {a : α → D} {b : β → D} (xs : List α) (ys : List β) : zipD [xs.map a, ys.map b] = (xs.zip ys).map fun p => .tup [a p.1, b p.2] := by
  refine List.ext_getElem (by simp [zipD, minL]) fun i h1 h2 => ?_
  have hx : i < xs.length := by simp at h2; omega
  have hy : i < ys.length := by simp at h2; omega
  simp [zipD, hx, hy, List.getD_eq_getElem?_getD]
theorem zipD3 {α β γ : Type} {a : α → D} {b : β → D} {c : γ → D} (xs : List α) (ys : List β) (zs : List γ) : zipD [xs.map a, ys.map b, zs.map c] = (xs.zip (ys.zip zs)).map fun p => .tup [a p.1, b p.2.1, c p.2.2] := by
  refine List.ext_getElem (by simp [zipD, minL]) fun i h1 h2 => ?_
  have hx : i < xs.length := by simp at h2; omega
  have hy : i < ys.length := by simp at h2; omega
  have hz : i < zs.length := by simp at h2; omega
  simp [zipD, hx, hy, hz, List.getD_eq_getElem?_getD]
theorem seqD_l {xs : List D} : seqD (.lst xs) = some xs := rfl
theorem seqD_t {xs : List D} : seqD (.tup xs) = some xs := rfl
theorem seqDs2 {d e : D} {xs ys : List D} (h : seqD d = some xs) (k : seqD e = some ys) : seqDs [d, e] = some [xs, ys] := by simp [seqDs, h, k]
theorem seqDs3 {d e f : D} {xs ys zs : List D} (h : seqD d = some xs) (k : seqD e = some ys) (l : seqD f = some zs) : seqDs [d, e, f] = some [xs, ys, zs] := by simp [seqDs, h, k, l]
theorem hasI_s {α : Type} {x : α} {P : α → Prop} : hasI (some x) P = P x := id rfl
/-- a comprehension with a test -/
theorem lc_fil {α β : Type} {g : WG} {t : WT} {e : WE} {ρ : List Slot} (keep : α → Bool) (f : α → β) {mk : α → D} {out : β → D} {P : List D → Prop} : ∀ (xs : List α) (acc : List β), acc.length + xs.length ≤ 1000 →
    (∀ a ∈ xs, ∀ (Q : D → Prop) (C : Prop), (keep a = true → Q (out (f a))) → (keep a = false → C) → g (mk a) ρ fun ρ2 => t ρ2 (fun b => if b = true then e ρ2 Q (fun _ => False) else C) (fun _ => False)) →
    P ((acc ++ (xs.filter keep).map f).map out) → lcL g t e ρ (xs.map mk) (acc.map out) P
  | [], acc, _, _, he => by
    have he : P ((acc ++ []).map out) := he
    rw [List.append_nil] at he
    exact he
  | a :: r, acc, hl, hs, he => by
    have hl' : acc.length + (r.length + 1) ≤ 1000 := hl
    refine hs a List.mem_cons_self (fun y => (acc.map out).length < sizeLine ∧ lcL g t e ρ (r.map mk) (acc.map out ++ [y]) P) _ (fun hk => ⟨by rw [List.length_map]; exact L2.small1000 (by omega), ?_⟩) fun hk => ?_
    · have := lc_fil keep f (P := P) r (acc ++ [f a]) (by rw [List.length_append]; simp; omega) (fun a ha => hs a (List.mem_cons_of_mem _ ha)) (by
        rw [List.filter_cons_of_pos hk] at he
        rw [List.append_assoc]
        exact he)
      rwa [List.map_append] at this
    · exact lc_fil keep f (P := P) r acc (by omega) (fun a ha => hs a (List.mem_cons_of_mem _ ha)) (by
        rw [List.filter_cons_of_neg (by rw [hk]; decide)] at he
        exact he)
theorem lc_fil0 {α β : Type} {g : WG} {t : WT} {e : WE} {ρ : List Slot} (keep : α → Bool) (f : α → β) {mk : α → D} (out : β → D) {P : List D → Prop} (xs : List α) (hl : xs.length ≤ 1000)
    (hs : ∀ a ∈ xs, ∀ (Q : D → Prop) (C : Prop), (keep a = true → Q (out (f a))) → (keep a = false → C) → g (mk a) ρ fun ρ2 => t ρ2 (fun b => if b = true then e ρ2 Q (fun _ => False) else C) (fun _ => False))
    (he : P (((xs.filter keep).map f).map out)) : lcL g t e ρ (xs.map mk) [] P := lc_fil keep f (out := out) xs [] (by simpa using hl) hs (by simpa using he)
/-- a comprehension of a function -/
theorem lc_map {α β : Type} {g : WG} {e : WE} {ρ : List Slot} (f : α → β) {mk : α → D} (out : β → D) {P : List D → Prop} (xs : List α) (hl : xs.length ≤ 1000)
    (hs : ∀ a ∈ xs, ∀ Q : D → Prop, Q (out (f a)) → g (mk a) ρ fun ρ2 => e ρ2 Q (fun _ => False))
    (he : P ((xs.map f).map out)) : lcL g wYes e ρ (xs.map mk) [] P :=
  lc_rel0 (fun a b => b = f a) out xs hl (fun a ha Q hQ => hs a ha Q (hQ _ rfl)) fun bs h => by rw [h.map]; exact he
theorem allBl_map (bs : List Bool) : allBl (bs.map .bl) = some bs := by
  induction bs with
  | nil => rfl
  | cons b r ih => simp [allBl, ih]
theorem bAll_m {P : D → Prop} {E : Exc → Prop} (bs : List Bool) (q : P (.bl (bs.all id))) : bAll [.lst (bs.map .bl)] P E := by
  show match allBl (bs.map .bl) with | some bs => P (.bl (bs.all id)) | none => False
  rw [allBl_map]
  exact q
theorem mkK_of {sh : Shp} {ini : Nat → List D → WD} {wa wk : WA} {ρ : List Slot} {P : D → Prop} {E : Exc → Prop} {ds zs xs : List D} (ha : ∀ (Q : List D → Prop) (E : Exc → Prop), Q ds → wa ρ Q E) (hk : ∀ (Q : List D → Prop) (E : Exc → Prop), Q zs → wk ρ Q E)
    (l1 : ds.length = sh.n) (l2 : zs.length = sh.ks.length) (e : arrD ds zs sh.arr = some xs) (q : ini sh.k xs P E) : wMkK (some sh) ini wa wk ρ P E := by
  refine ha _ _ (hk _ _ ⟨l1, l2, ?_⟩)
  rw [e]
  exact q
end Tr

namespace Tr
/-! ### no motion is faster -/
theorem lt_of_mul {a b c : Int} (hc : 0 < c) (h : a * c < b * c) : a < b := Int.lt_of_mul_lt_mul_right h (Int.le_of_lt hc)
theorem pos4 {a b c d : Int} (h1 : 0 < a) (h2 : 0 < b) (h3 : 0 < c) (h4 : 0 < d) : 0 < a * b * c * d := Int.mul_pos (Int.mul_pos (Int.mul_pos h1 h2) h3) h4
theorem sq_nn (x : Int) : 0 ≤ x * x := by
  rcases Int.le_total 0 x with h | h
  · exact Int.mul_nonneg h h
  · have := Int.mul_nonneg (show 0 ≤ -x by omega) (show 0 ≤ -x by omega)
    rwa [Int.neg_mul_neg] at this
section
variable {v1 v2 a1 a2 L W t x0 x1 b0 b1 : Int}
theorem mo_fast (pv1 : 0 < v1) (pv2 : 0 < v2) (pa1 : 0 < a1) (pa2 : 0 < a2) (pL : 0 < L) (pW : 0 < W) (px0 : 0 < x0) (px1 : 0 < x1) (pb0 : 0 < b0) (pb1 : 0 < b1) (hb : a2 * b1 ≤ b0 * a1) (hx : x0 * v2 ≤ v1 * x1)
    (F : v1 * v1 * a2 * W < a1 * L * v2 * v2) (ht : (t - 1) * (v1 * v2 * a1 * W) < 1000000 * (v1 * v1 * a2 * W + a1 * L * v2 * v2)) : (t - 1) * (W * x0 * x1 * b1) < 1000000 * (L * x1 * x1 * b1 + W * x0 * x0 * b0) := by
  have e1 : W * a2 * v1 * (x0 * v2) ≤ W * a2 * v1 * (v1 * x1) := Int.mul_le_mul_of_nonneg_left hx (Int.le_of_lt (Int.mul_pos (Int.mul_pos pW pa2) pv1))
  have e2 : v1 * v1 * a2 * W * x1 < a1 * L * v2 * v2 * x1 := Int.mul_lt_mul_of_pos_right F px1
  have k1 : W * a2 * v1 * x0 * v2 < a1 * L * v2 * x1 * v2 := by
    have i1 : W * a2 * v1 * x0 * v2 = W * a2 * v1 * (x0 * v2) := by grind
    have i2 : a1 * L * v2 * x1 * v2 = a1 * L * v2 * v2 * x1 := by grind
    have i3 : W * a2 * v1 * (v1 * x1) = v1 * v1 * a2 * W * x1 := by grind
    rw [i1, i2]
    rw [i3] at e1
    exact Int.lt_of_le_of_lt e1 e2
  have k2 := lt_of_mul pv2 k1
  have k3 : 0 ≤ (v1 * x1 - x0 * v2) * (a1 * L * v2 * x1 - W * a2 * v1 * x0) := Int.mul_nonneg (by omega) (by omega)
  have k4 : (v1 * v1 * a2 * W + a1 * L * v2 * v2) * (x0 * x1) ≤ v1 * v2 * (a1 * L * x1 * x1 + W * x0 * x0 * a2) := by
    have i : v1 * v2 * (a1 * L * x1 * x1 + W * x0 * x0 * a2) - (v1 * v1 * a2 * W + a1 * L * v2 * v2) * (x0 * x1) = (v1 * x1 - x0 * v2) * (a1 * L * v2 * x1 - W * a2 * v1 * x0) := by grind
    omega
  have k5 : (v1 * v1 * a2 * W + a1 * L * v2 * v2) * (x0 * x1) * b1 ≤ v1 * v2 * (a1 * L * x1 * x1 + W * x0 * x0 * a2) * b1 := Int.mul_le_mul_of_nonneg_right k4 (Int.le_of_lt pb1)
  have k6 : W * x0 * x0 * (a2 * b1) ≤ W * x0 * x0 * (b0 * a1) := Int.mul_le_mul_of_nonneg_left hb (Int.le_of_lt (Int.mul_pos (Int.mul_pos pW px0) px0))
  have k7 : v1 * v2 * (a1 * L * x1 * x1 * b1 + W * x0 * x0 * (a2 * b1)) ≤ v1 * v2 * (a1 * L * x1 * x1 * b1 + W * x0 * x0 * (b0 * a1)) := Int.mul_le_mul_of_nonneg_left (by omega) (Int.le_of_lt (Int.mul_pos pv1 pv2))
  have k8 : (v1 * v1 * a2 * W + a1 * L * v2 * v2) * (x0 * x1) * b1 ≤ v1 * v2 * a1 * (L * x1 * x1 * b1 + W * x0 * x0 * b0) := by
    have i1 : v1 * v2 * (a1 * L * x1 * x1 + W * x0 * x0 * a2) * b1 = v1 * v2 * (a1 * L * x1 * x1 * b1 + W * x0 * x0 * (a2 * b1)) := by grind
    have i2 : v1 * v2 * (a1 * L * x1 * x1 * b1 + W * x0 * x0 * (b0 * a1)) = v1 * v2 * a1 * (L * x1 * x1 * b1 + W * x0 * x0 * b0) := by grind
    rw [i1] at k5
    rw [i2] at k7
    exact Int.le_trans k5 k7
  have k9 : (v1 * v1 * a2 * W + a1 * L * v2 * v2) * (x0 * x1) * b1 * W ≤ v1 * v2 * a1 * (L * x1 * x1 * b1 + W * x0 * x0 * b0) * W := Int.mul_le_mul_of_nonneg_right k8 (Int.le_of_lt pW)
  have pU : 0 < W * x0 * x1 * b1 := pos4 pW px0 px1 pb1
  have pG : 0 < v1 * v2 * a1 * W := pos4 pv1 pv2 pa1 pW
  have k10 := Int.mul_lt_mul_of_pos_right ht pU
  refine lt_of_mul pG ?_
  have i1 : (t - 1) * (W * x0 * x1 * b1) * (v1 * v2 * a1 * W) = (t - 1) * (v1 * v2 * a1 * W) * (W * x0 * x1 * b1) := by grind
  have i2 : 1000000 * (v1 * v1 * a2 * W + a1 * L * v2 * v2) * (W * x0 * x1 * b1) = 1000000 * ((v1 * v1 * a2 * W + a1 * L * v2 * v2) * (x0 * x1) * b1 * W) := by grind
  have i3 : 1000000 * (L * x1 * x1 * b1 + W * x0 * x0 * b0) * (v1 * v2 * a1 * W) = 1000000 * (v1 * v2 * a1 * (L * x1 * x1 * b1 + W * x0 * x0 * b0) * W) := by grind
  rw [i1, i3]
  rw [i2] at k10
  omega
theorem mo_slow (pa1 : 0 < a1) (pL : 0 < L) (pW : 0 < W) (px0 : 0 < x0) (px1 : 0 < x1) (pb0 : 0 < b0) (pb1 : 0 < b1) (hb : a2 * b1 ≤ b0 * a1) (t0 : 0 ≤ t)
    (ht : 0 < t → (t - 1) * (t - 1) * (W * a1) < 4 * 1000000 * 1000000 * L * a2) : (t - 1) * (W * x0 * x1 * b1) < 1000000 * (L * x1 * x1 * b1 + W * x0 * x0 * b0) := by
  have pU : 0 < W * x0 * x1 * b1 := pos4 pW px0 px1 pb1
  have pP : 0 < L * x1 * x1 * b1 := pos4 pL px1 px1 pb1
  have pQ : 0 < W * x0 * x0 * b0 := pos4 pW px0 px0 pb0
  by_cases h0 : 0 < t
  · have ht := ht h0
    refine Int.not_le.mp fun hc => ?_
    have u0 : 0 ≤ t - 1 := by omega
    generalize t - 1 = u at *
    have s1 := Int.mul_le_mul hc hc (show 0 ≤ 1000000 * (L * x1 * x1 * b1 + W * x0 * x0 * b0) by omega) (Int.mul_nonneg u0 (Int.le_of_lt pU))
    have s2 := sq_nn (L * x1 * x1 * b1 - W * x0 * x0 * b0)
    have i1 : 1000000 * (L * x1 * x1 * b1 + W * x0 * x0 * b0) * (1000000 * (L * x1 * x1 * b1 + W * x0 * x0 * b0)) = 1000000000000 * ((L * x1 * x1 * b1 - W * x0 * x0 * b0) * (L * x1 * x1 * b1 - W * x0 * x0 * b0)) + 4 * 1000000 * 1000000 * L * b0 * (W * x0 * x0 * x1 * x1 * b1) := by grind
    have i2 : u * (W * x0 * x1 * b1) * (u * (W * x0 * x1 * b1)) = u * u * W * b1 * (W * x0 * x0 * x1 * x1 * b1) := by grind
    rw [i1, i2] at s1
    have pR : 0 < W * x0 * x0 * x1 * x1 * b1 := Int.mul_pos (Int.mul_pos (pos4 pW px0 px0 px1) px1) pb1
    have s3 : 4 * 1000000 * 1000000 * L * b0 * (W * x0 * x0 * x1 * x1 * b1) ≤ u * u * W * b1 * (W * x0 * x0 * x1 * x1 * b1) := by omega
    have s4 : 4 * 1000000 * 1000000 * L * b0 ≤ u * u * W * b1 := Int.le_of_mul_le_mul_right s3 pR
    have s5 := Int.mul_le_mul_of_nonneg_right s4 (Int.le_of_lt pa1)
    have s6 := Int.mul_lt_mul_of_pos_right ht pb1
    have s7 := Int.mul_le_mul_of_nonneg_left hb (show 0 ≤ 4 * 1000000 * 1000000 * L by omega)
    have i3 : u * u * (W * a1) * b1 = u * u * W * b1 * a1 := by grind
    have i4 : 4 * 1000000 * 1000000 * L * a2 * b1 = 4 * 1000000 * 1000000 * L * (a2 * b1) := by grind
    have i5 : 4 * 1000000 * 1000000 * L * b0 * a1 = 4 * 1000000 * 1000000 * L * (b0 * a1) := by grind
    rw [i3, i4] at s6
    rw [i5] at s5
    omega
  · have e : t - 1 = -1 := by omega
    rw [e]
    omega
theorem mo_slow2 (pa1 : 0 < a1) (pL : 0 < L) (pb1 : 0 < b1) (hb : a2 * b1 ≤ b0 * a1) (ht : (t - 1) * (t - 1) * (W * a1) < 4 * 1000000 * 1000000 * L * a2) : (t - 1) * (t - 1) * W * b1 < 4 * L * b0 * 1000000000000 := by
  refine lt_of_mul pa1 ?_
  generalize t - 1 = u at *
  have s6 := Int.mul_lt_mul_of_pos_right ht pb1
  have s7 := Int.mul_le_mul_of_nonneg_left hb (show 0 ≤ 4 * 1000000 * 1000000 * L by omega)
  have i3 : u * u * (W * a1) * b1 = u * u * W * b1 * a1 := by grind
  have i4 : 4 * 1000000 * 1000000 * L * a2 * b1 = 4 * 1000000 * 1000000 * L * (a2 * b1) := by grind
  have i5 : 4 * L * b0 * 1000000000000 * a1 = 4 * 1000000 * 1000000 * L * (b0 * a1) := by grind
  rw [i3, i4] at s6
  rw [i5]
  omega
theorem mo_fast2 (pv1 : 0 < v1) (pv2 : 0 < v2) (pa1 : 0 < a1) (pL : 0 < L) (pW : 0 < W) (px0 : 0 < x0) (px1 : 0 < x1) (pb0 : 0 < b0) (pb1 : 0 < b1) (hx : x0 * v2 ≤ v1 * x1) (t1 : 0 < t)
    (F : v1 * v1 * a2 * W < a1 * L * v2 * v2) (hn : L * (x1 * x1 * b1) < x0 * x0 * b0 * W) (ht : (t - 1) * (v1 * v2 * a1 * W) < 1000000 * (v1 * v1 * a2 * W + a1 * L * v2 * v2)) : (t - 1) * (t - 1) * W * b1 < 4 * L * b0 * 1000000000000 := by
  have u0 : 0 ≤ t - 1 := by omega
  generalize t - 1 = u at *
  have c1 : u * v1 * W < 2000000 * L * v2 := by
    refine lt_of_mul (Int.mul_pos pa1 pv2) ?_
    have i1 : u * v1 * W * (a1 * v2) = u * (v1 * v2 * a1 * W) := by grind
    have i2 : 2000000 * L * v2 * (a1 * v2) = 2000000 * (a1 * L * v2 * v2) := by grind
    rw [i1, i2]
    omega
  have n1 : 0 ≤ u * v1 * W := Int.mul_nonneg (Int.mul_nonneg u0 (Int.le_of_lt pv1)) (Int.le_of_lt pW)
  have n2 : 0 ≤ 2000000 * L * v2 := Int.mul_nonneg (by omega) (Int.le_of_lt pv2)
  have c2 : u * v1 * W * (u * v1 * W) ≤ 2000000 * L * v2 * (2000000 * L * v2) := Int.mul_le_mul (Int.le_of_lt c1) (Int.le_of_lt c1) n1 n2
  have c3 : x0 * v2 * (x0 * v2) ≤ v1 * x1 * (v1 * x1) := Int.mul_le_mul hx hx (Int.le_of_lt (Int.mul_pos px0 pv2)) (Int.le_of_lt (Int.mul_pos pv1 px1))
  have c4 : L * b1 * v2 * v2 < v1 * v1 * b0 * W := by
    refine lt_of_mul (Int.mul_pos px1 px1) ?_
    have d1 := Int.mul_lt_mul_of_pos_right hn (Int.mul_pos pv2 pv2)
    have d2 := Int.mul_le_mul_of_nonneg_left c3 (Int.le_of_lt (Int.mul_pos pb0 pW))
    have i1 : L * b1 * v2 * v2 * (x1 * x1) = L * (x1 * x1 * b1) * (v2 * v2) := by grind
    have i2 : x0 * x0 * b0 * W * (v2 * v2) = b0 * W * (x0 * v2 * (x0 * v2)) := by grind
    have i3 : v1 * v1 * b0 * W * (x1 * x1) = b0 * W * (v1 * x1 * (v1 * x1)) := by grind
    rw [i1, i3]
    rw [i2] at d1
    exact Int.lt_of_lt_of_le d1 d2
  refine lt_of_mul (Int.mul_pos (Int.mul_pos pv1 pv1) pW) ?_
  have d1 := Int.mul_le_mul_of_nonneg_right c2 (Int.le_of_lt pb1)
  have d2 := Int.mul_lt_mul_of_pos_left c4 (show 0 < 4000000000000 * L by omega)
  have i1 : u * u * W * b1 * (v1 * v1 * W) = u * v1 * W * (u * v1 * W) * b1 := by grind
  have i2 : 2000000 * L * v2 * (2000000 * L * v2) * b1 = 4000000000000 * L * (L * b1 * v2 * v2) := by grind
  have i3 : 4 * L * b0 * 1000000000000 * (v1 * v1 * W) = 4000000000000 * L * (v1 * v1 * b0 * W) := by grind
  rw [i1, i3]
  rw [i2] at d1
  exact Int.lt_of_le_of_lt d1 d2
end
end Tr

namespace Tr
/-! ### the less is left, the sooner -/
section
variable {v1 v2 a1 a2 L W t w1 w2 c1 c2 K s : Int}
/-- what is known of a time from below -/
theorem up_all (pv1 : 0 < v1) (pv2 : 0 < v2) (pa1 : 0 < a1) (pa2 : 0 < a2) (pL : 0 < L) (pW : 0 < W) (t0 : 0 ≤ t) (h : 1000000 * (v1 * v1 * a2 * W + a1 * L * v2 * v2) ≤ t * (v1 * v2 * a1 * W)) : 4 * 1000000 * 1000000 * L * a2 ≤ t * t * (W * a1) := by
  have pG : 0 < v1 * v2 * a1 * W := pos4 pv1 pv2 pa1 pW
  have pP : 0 < v1 * v1 * a2 * W := pos4 pv1 pv1 pa2 pW
  have pQ : 0 < a1 * L * v2 * v2 := pos4 pa1 pL pv2 pv2
  have s1 := Int.mul_le_mul h h (show 0 ≤ 1000000 * (v1 * v1 * a2 * W + a1 * L * v2 * v2) by omega) (Int.mul_nonneg t0 (Int.le_of_lt pG))
  have s2 := sq_nn (v1 * v1 * a2 * W - a1 * L * v2 * v2)
  have i1 : 1000000 * (v1 * v1 * a2 * W + a1 * L * v2 * v2) * (1000000 * (v1 * v1 * a2 * W + a1 * L * v2 * v2)) = 1000000000000 * ((v1 * v1 * a2 * W - a1 * L * v2 * v2) * (v1 * v1 * a2 * W - a1 * L * v2 * v2)) + 4 * 1000000 * 1000000 * L * a2 * (v1 * v1 * v2 * v2 * a1 * W) := by grind
  have i2 : t * (v1 * v2 * a1 * W) * (t * (v1 * v2 * a1 * W)) = t * t * (W * a1) * (v1 * v1 * v2 * v2 * a1 * W) := by grind
  rw [i1, i2] at s1
  have pR : 0 < v1 * v1 * v2 * v2 * a1 * W := Int.mul_pos (Int.mul_pos (pos4 pv1 pv1 pv2 pv2) pa1) pW
  exact Int.le_of_mul_le_mul_right (show 4 * 1000000 * 1000000 * L * a2 * (v1 * v1 * v2 * v2 * a1 * W) ≤ t * t * (W * a1) * (v1 * v1 * v2 * v2 * a1 * W) by omega) pR
/-- the other is slow -/
theorem le_slow (pa1 : 0 < a1) (pa2 : 0 < a2) (pc1 : 0 < c1) (pc2 : 0 < c2) (pK : 0 < K) (hK : K ≤ L) (hc : a1 * c2 ≤ c1 * a2) (h : 4 * 1000000 * 1000000 * L * a2 ≤ t * t * (W * a1)) : 4 * 1000000 * 1000000 * K * c2 ≤ t * t * (W * c1) := by
  refine Int.le_of_mul_le_mul_right ?_ pa1
  have s1 := Int.mul_le_mul_of_nonneg_right h (Int.le_of_lt pc1)
  have s2 : K * (a1 * c2) ≤ L * (c1 * a2) := Int.mul_le_mul hK hc (Int.le_of_lt (Int.mul_pos pa1 pc2)) (by omega)
  have i1 : 4 * 1000000 * 1000000 * K * c2 * a1 = 4000000000000 * (K * (a1 * c2)) := by grind
  have i2 : 4 * 1000000 * 1000000 * L * a2 * c1 = 4000000000000 * (L * (c1 * a2)) := by grind
  have i3 : t * t * (W * a1) * c1 = t * t * (W * c1) * a1 := by grind
  rw [i1]
  rw [i2, i3] at s1
  omega
/-- both are fast -/
theorem le_ff (pv1 : 0 < v1) (pv2 : 0 < v2) (pa1 : 0 < a1) (pa2 : 0 < a2) (pw1 : 0 < w1) (pw2 : 0 < w2) (pc1 : 0 < c1) (pc2 : 0 < c2) (pK : 0 < K) (hK : K ≤ L) (pW : 0 < W) (hw : v1 * w2 ≤ w1 * v2) (hc : a1 * c2 ≤ c1 * a2)
    (F : w1 * w1 * c2 * W < c1 * K * w2 * w2) (h : 1000000 * (v1 * v1 * a2 * W + a1 * L * v2 * v2) ≤ t * (v1 * v2 * a1 * W)) : 1000000 * (w1 * w1 * c2 * W + c1 * K * w2 * w2) ≤ t * (w1 * w2 * c1 * W) := by
  -- the time at v, a with K left is at least that at w, c
  have e1 : W * c2 * w1 * (v1 * w2) ≤ W * c2 * w1 * (w1 * v2) := Int.mul_le_mul_of_nonneg_left hw (Int.le_of_lt (Int.mul_pos (Int.mul_pos pW pc2) pw1))
  have e2 : w1 * w1 * c2 * W * v2 < c1 * K * w2 * w2 * v2 := Int.mul_lt_mul_of_pos_right F pv2
  have k1 : W * c2 * w1 * v1 * w2 < c1 * K * w2 * v2 * w2 := by
    have i1 : W * c2 * w1 * v1 * w2 = W * c2 * w1 * (v1 * w2) := by grind
    have i2 : c1 * K * w2 * v2 * w2 = c1 * K * w2 * w2 * v2 := by grind
    have i3 : W * c2 * w1 * (w1 * v2) = w1 * w1 * c2 * W * v2 := by grind
    rw [i1, i2]
    rw [i3] at e1
    exact Int.lt_of_le_of_lt e1 e2
  have k2 := lt_of_mul pw2 k1
  have k3 : 0 ≤ (w1 * v2 - v1 * w2) * (c1 * K * w2 * v2 - W * c2 * w1 * v1) := Int.mul_nonneg (by omega) (by omega)
  have k4 : (w1 * w1 * c2 * W + c1 * K * w2 * w2) * (v1 * v2) ≤ w1 * w2 * (c1 * K * v2 * v2 + W * v1 * v1 * c2) := by
    have i : w1 * w2 * (c1 * K * v2 * v2 + W * v1 * v1 * c2) - (w1 * w1 * c2 * W + c1 * K * w2 * w2) * (v1 * v2) = (w1 * v2 - v1 * w2) * (c1 * K * w2 * v2 - W * c2 * w1 * v1) := by grind
    omega
  have k5 : (w1 * w1 * c2 * W + c1 * K * w2 * w2) * (v1 * v2) * a1 ≤ w1 * w2 * (c1 * K * v2 * v2 + W * v1 * v1 * c2) * a1 := Int.mul_le_mul_of_nonneg_right k4 (Int.le_of_lt pa1)
  have k6 : W * v1 * v1 * (a1 * c2) ≤ W * v1 * v1 * (c1 * a2) := Int.mul_le_mul_of_nonneg_left hc (Int.le_of_lt (Int.mul_pos (Int.mul_pos pW pv1) pv1))
  have k6' : c1 * a1 * v2 * v2 * K ≤ c1 * a1 * v2 * v2 * L := Int.mul_le_mul_of_nonneg_left hK (Int.le_of_lt (pos4 pc1 pa1 pv2 pv2))
  have k7 : w1 * w2 * (c1 * a1 * v2 * v2 * K + W * v1 * v1 * (a1 * c2)) ≤ w1 * w2 * (c1 * a1 * v2 * v2 * L + W * v1 * v1 * (c1 * a2)) := Int.mul_le_mul_of_nonneg_left (by omega) (Int.le_of_lt (Int.mul_pos pw1 pw2))
  have k8 : (w1 * w1 * c2 * W + c1 * K * w2 * w2) * (v1 * v2 * a1) ≤ w1 * w2 * c1 * (v1 * v1 * a2 * W + a1 * L * v2 * v2) := by
    have i0 : (w1 * w1 * c2 * W + c1 * K * w2 * w2) * (v1 * v2) * a1 = (w1 * w1 * c2 * W + c1 * K * w2 * w2) * (v1 * v2 * a1) := by grind
    have i1 : w1 * w2 * (c1 * K * v2 * v2 + W * v1 * v1 * c2) * a1 = w1 * w2 * (c1 * a1 * v2 * v2 * K + W * v1 * v1 * (a1 * c2)) := by grind
    have i2 : w1 * w2 * (c1 * a1 * v2 * v2 * L + W * v1 * v1 * (c1 * a2)) = w1 * w2 * c1 * (v1 * v1 * a2 * W + a1 * L * v2 * v2) := by grind
    rw [i0, i1] at k5
    rw [i2] at k7
    exact Int.le_trans k5 k7
  have k9 := Int.mul_le_mul_of_nonneg_right k8 (Int.le_of_lt pW)
  have k10 := Int.mul_le_mul_of_nonneg_right h (Int.le_of_lt (pos4 pw1 pw2 pc1 pW))
  refine Int.le_of_mul_le_mul_right ?_ (pos4 pv1 pv2 pa1 pW)
  have i1 : 1000000 * (w1 * w1 * c2 * W + c1 * K * w2 * w2) * (v1 * v2 * a1 * W) = 1000000 * ((w1 * w1 * c2 * W + c1 * K * w2 * w2) * (v1 * v2 * a1) * W) := by grind
  have i2 : t * (w1 * w2 * c1 * W) * (v1 * v2 * a1 * W) = t * (v1 * v2 * a1 * W) * (w1 * w2 * c1 * W) := by grind
  have i3 : 1000000 * (v1 * v1 * a2 * W + a1 * L * v2 * v2) * (w1 * w2 * c1 * W) = 1000000 * (w1 * w2 * c1 * (v1 * v1 * a2 * W + a1 * L * v2 * v2) * W) := by grind
  rw [i1, i2]
  rw [i3] at k10
  omega
/-- the one is slow, the other fast -/
theorem le_sf (pv1 : 0 < v1) (pv2 : 0 < v2) (pa1 : 0 < a1) (pa2 : 0 < a2) (pw1 : 0 < w1) (pw2 : 0 < w2) (pc1 : 0 < c1) (pc2 : 0 < c2) (pK : 0 < K) (hK : K ≤ L) (pW : 0 < W) (t0 : 0 ≤ t) (hw : v1 * w2 ≤ w1 * v2)
    (F : w1 * w1 * c2 * W < c1 * K * w2 * w2) (nF : a1 * L * v2 * v2 ≤ v1 * v1 * a2 * W) (h : 4 * 1000000 * 1000000 * L * a2 ≤ t * t * (W * a1)) : 1000000 * (w1 * w1 * c2 * W + c1 * K * w2 * w2) ≤ t * (w1 * w2 * c1 * W) := by
  have g1 : v1 * w2 * (v1 * w2) ≤ w1 * v2 * (w1 * v2) := Int.mul_le_mul hw hw (Int.le_of_lt (Int.mul_pos pv1 pw2)) (Int.le_of_lt (Int.mul_pos pw1 pv2))
  have g2 : L * a1 * (w2 * w2) ≤ w1 * w1 * (a2 * W) := by
    refine Int.le_of_mul_le_mul_right ?_ (Int.mul_pos pv2 pv2)
    have d1 := Int.mul_le_mul_of_nonneg_right nF (Int.le_of_lt (Int.mul_pos pw2 pw2))
    have d2 := Int.mul_le_mul_of_nonneg_right g1 (Int.le_of_lt (Int.mul_pos pa2 pW))
    have i1 : L * a1 * (w2 * w2) * (v2 * v2) = a1 * L * v2 * v2 * (w2 * w2) := by grind
    have i2 : v1 * v1 * a2 * W * (w2 * w2) = v1 * w2 * (v1 * w2) * (a2 * W) := by grind
    have i3 : w1 * w1 * (a2 * W) * (v2 * v2) = w1 * v2 * (w1 * v2) * (a2 * W) := by grind
    rw [i1, i3]
    rw [i2] at d1
    exact Int.le_trans d1 d2
  have g3 : 2000000 * K * w2 ≤ t * w1 * W := by
    have n1 : 0 ≤ 2000000 * K * w2 := Int.mul_nonneg (by omega) (Int.le_of_lt pw2)
    have n2 : 0 ≤ t * w1 * W := Int.mul_nonneg (Int.mul_nonneg t0 (Int.le_of_lt pw1)) (Int.le_of_lt pW)
    have sq : 2000000 * K * w2 * (2000000 * K * w2) ≤ t * w1 * W * (t * w1 * W) := by
      refine Int.le_of_mul_le_mul_right ?_ pa1
      have d0 : K * K ≤ L * L := Int.mul_le_mul hK hK (by omega) (by omega)
      have d1 := Int.mul_le_mul_of_nonneg_right d0 (Int.le_of_lt (Int.mul_pos (Int.mul_pos pw2 pw2) pa1))
      have d2 := Int.mul_le_mul_of_nonneg_left g2 (show 0 ≤ L by omega)
      have d3 := Int.mul_le_mul_of_nonneg_right h (Int.le_of_lt (Int.mul_pos (Int.mul_pos pw1 pw1) pW))
      have i1 : 2000000 * K * w2 * (2000000 * K * w2) * a1 = 4000000000000 * (K * K * (w2 * w2 * a1)) := by grind
      have i2 : L * (L * a1 * (w2 * w2)) = L * L * (w2 * w2 * a1) := by grind
      have i3 : 4 * 1000000 * 1000000 * L * a2 * (w1 * w1 * W) = 4000000000000 * (L * (w1 * w1 * (a2 * W))) := by grind
      have i4 : t * t * (W * a1) * (w1 * w1 * W) = t * w1 * W * (t * w1 * W) * a1 := by grind
      rw [i1]
      rw [i2] at d2
      rw [i3, i4] at d3
      omega
    refine Int.not_lt.mp fun hc => ?_
    have h1 := Int.mul_lt_mul_of_pos_left hc (Int.lt_of_le_of_lt n2 hc)
    have h2 := Int.mul_le_mul_of_nonneg_right (Int.le_of_lt hc) n2
    omega
  have g4 := Int.mul_le_mul_of_nonneg_right g3 (Int.le_of_lt (Int.mul_pos pc1 pw2))
  have i1 : 2000000 * K * w2 * (c1 * w2) = 2000000 * (c1 * K * w2 * w2) := by grind
  have i2 : t * w1 * W * (c1 * w2) = t * (w1 * w2 * c1 * W) := by grind
  rw [i1, i2] at g4
  omega
end
end Tr

namespace Tr
open PySem PySem.Spec PyProof.Rows L2
/-! ### checks that raise -/
def btw (a b c : Int) : Bool := decide (a ≤ b) && decide (b ≤ c)
section
variable {M : Sm} {e1 e2 e3 e4 : IE} {ρ : List Slot} {a b c d : Int} {Q : Bool → Prop} {E : Exc → Prop} {A : EndsD}
/-- e is d there -/
abbrev Is (M : Sm) (e : IE) (ρ : List Slot) (d : D) : Prop := ∀ (P : D → Prop) (E : Exc → Prop), P d → semE M e ρ P E
theorem Is.var {i : Nat} {d : D} (h : ρ[i]? = some (.val d)) : Is M (.var i) ρ d := fun P E q => by simp only [semE, wVar, h]; exact q
theorem Is.cst {d : D} : Is M (.cst d) ρ d := fun P E q => by simp only [semE, wC]; exact q
theorem Is.neg (h : Is M e1 ρ (.int a)) : Is M (.neg e1) ρ (.int (-a)) := fun P E q => by simp only [semE, w1]; exact h _ _ (by rw [dNeg_i]; exact q)
/-- t is b there -/
abbrev IsT (M : Sm) (t : IT) (ρ : List Slot) (b : Bool) : Prop := ∀ (Q : Bool → Prop) (E : Exc → Prop), Q b → semT M t ρ Q E
theorem IsT.btw (g1 : Is M e1 ρ (.int a)) (g2 : Is M e2 ρ (.int b)) (g3 : Is M e3 ρ (.int c)) : IsT M (.chain e1 [.LtE, .LtE] [e2, e3]) ρ (Tr.btw a b c) := fun Q E q => by
  simp only [semT, semL, cmpD, wTst, wChain, wLinks]
  refine g1 _ _ (g2 _ _ ?_)
  rw [dLe_i]
  unfold Tr.btw at q
  by_cases h1 : a ≤ b
  · simp only [h1, decide_true, Bool.true_and] at q ⊢
    simp only [isTru, dTru, if_true]
    refine g3 _ _ ?_
    rw [dLe_i]
    exact q
  · simp only [h1, decide_false, Bool.false_and] at q ⊢
    simp only [isTru, dTru, if_false, Bool.false_eq_true]
    exact q
theorem IsT.btw3 (g1 : Is M e1 ρ (.int a)) (g2 : Is M e2 ρ (.int b)) (g3 : Is M e3 ρ (.int c)) (g4 : Is M e4 ρ (.int d)) : IsT M (.chain e1 [.LtE, .LtE, .LtE] [e2, e3, e4]) ρ (decide (a ≤ b) && decide (b ≤ c) && decide (c ≤ d)) := fun Q E q => by
  simp only [semT, semL, cmpD, wTst, wChain, wLinks]
  refine g1 _ _ (g2 _ _ ?_)
  rw [dLe_i]
  by_cases h1 : a ≤ b
  · simp only [h1, decide_true, Bool.true_and] at q ⊢
    simp only [isTru, dTru, if_true]
    refine g3 _ _ ?_
    rw [dLe_i]
    by_cases h2 : b ≤ c
    · simp only [h2, decide_true, Bool.true_and] at q ⊢
      simp only [isTru, dTru, if_true]
      refine g4 _ _ ?_
      rw [dLe_i]
      exact q
    · simp only [h2, decide_false, Bool.false_and] at q ⊢
      simp only [isTru, dTru, if_false, Bool.false_eq_true]
      exact q
  · simp only [h1, decide_false, Bool.false_and] at q ⊢
    simp only [isTru, dTru, if_false, Bool.false_eq_true]
    exact q
theorem IsT.not {t : IT} {b : Bool} (h : IsT M t ρ b) : IsT M (.not t) ρ (!b) := fun Q E q => by
  simp only [semT, wNot]
  exact h _ _ q
theorem IsT.gt (g1 : Is M e1 ρ (.int a)) (g2 : Is M e2 ρ (.int b)) : IsT M (.cmp .Gt e1 e2) ρ (decide (b < a)) := fun Q E q => by
  simp only [semT, wTst, w2, cmpD]
  refine g1 _ _ (g2 _ _ ?_)
  rw [dGt_i]
  exact q
theorem IsT.val {b : Bool} (g : Is M e1 ρ (.bl b)) : IsT M (.val e1) ρ b := fun Q E q => by
  simp only [semT, wTru]
  exact g _ _ q
/-- es are ds there -/
abbrev IsA (M : Sm) (es : List IE) (ρ : List Slot) (ds : List D) : Prop := ∀ (P : List D → Prop) (E : Exc → Prop), P ds → semA M es ρ P E
theorem IsA.nil : IsA M [] ρ [] := fun P E q => q
theorem IsA.cons {e : IE} {es : List IE} {d : D} {ds : List D} (h : Is M e ρ d) (k : IsA M es ρ ds) : IsA M (e :: es) ρ (d :: ds) := fun P E q => h _ _ (k _ _ q)
theorem call_is {f : Nat} {es : List IE} {ds : List D} {P : D → Prop} {E : Exc → Prop} (h : IsA M es ρ ds) (q : M.sem f ds P E) : semE M (.call f es) ρ P E := h _ _ q
theorem make_is {f : Nat} {es : List IE} {ds : List D} {P : D → Prop} {E : Exc → Prop} (h : IsA M es ρ ds) (q : M.ini f ds P E) : semE M (.make f es) ρ P E := h _ _ q
theorem blt_is {f : BI} {es : List IE} {ds : List D} {P : D → Prop} {E : Exc → Prop} (h : IsA M es ρ ds) (q : biD f ds P E) : semE M (.blt f es) ρ P E := h _ _ q
theorem Is.tup {es : List IE} {ds : List D} (h : IsA M es ρ ds) (hl : ds.length ≤ 1000) : Is M (.tup es) ρ (.tup ds) := fun P E q => by
  simp only [semE, wTup]
  exact h _ _ ⟨Nat.le_of_lt (L2.small1000 hl), q⟩
theorem Is.lst {es : List IE} {ds : List D} (h : IsA M es ρ ds) (hl : ds.length ≤ 1000) : Is M (.lst es) ρ (.lst ds) := fun P E q => by
  simp only [semE, wLst]
  exact h _ _ ⟨Nat.le_of_lt (L2.small1000 hl), q⟩
theorem Is.add (g1 : Is M e1 ρ (.int a)) (g2 : Is M e2 ρ (.int b)) : Is M (.bin .Add e1 e2) ρ (.int (a + b)) := fun P E q => by
  simp only [semE, w2, binD]
  exact g1 _ _ (g2 _ _ (by rw [dAdd_i]; exact q))
theorem Is.sub (g1 : Is M e1 ρ (.int a)) (g2 : Is M e2 ρ (.int b)) : Is M (.bin .Sub e1 e2) ρ (.int (a - b)) := fun P E q => by
  simp only [semE, w2, binD]
  exact g1 _ _ (g2 _ _ (by rw [dSub_i]; exact q))
theorem Is.mul (g1 : Is M e1 ρ (.int a)) (g2 : Is M e2 ρ (.int b)) (h : MulOk a b) : Is M (.bin .Mult e1 e2) ρ (.int (a * b)) := fun P E q => by
  simp only [semE, w2, binD]
  exact g1 _ _ (g2 _ _ (by rw [dMul_i]; exact ⟨h, q⟩))
theorem Is.div (g1 : Is M e1 ρ (.int a)) (g2 : Is M e2 ρ (.int b)) (h : CDivW a b) : Is M (.bin .FloorDiv e1 e2) ρ (.int (a / b)) := fun P E q => by
  simp only [semE, w2, binD]
  exact g1 _ _ (g2 _ _ (by rw [dDiv_i]; exact ⟨h, q⟩))
theorem Is.mod (g1 : Is M e1 ρ (.int a)) (g2 : Is M e2 ρ (.int b)) (h : 0 < b) : Is M (.bin .Mod e1 e2) ρ (.int (a % b)) := fun P E q => by
  simp only [semE, w2, binD]
  exact g1 _ _ (g2 _ _ (by rw [dMod_i]; exact ⟨h, q⟩))
theorem Is.toint (g1 : Is M e1 ρ (.int a)) : Is M (.blt .int [e1]) ρ (.int a) := fun P E q => blt_is (IsA.cons g1 IsA.nil) (by show bInt [.int a] P E; rw [bInt_i]; exact q)
theorem Is.ix {ds : List D} {d : D} (g1 : Is M e1 ρ (.lst ds)) (g2 : Is M e2 ρ (.int a)) (h : L2.atI ds a = some d) : Is M (.ix e1 e2) ρ d := fun P E q => by
  simp only [semE, w2]
  exact g1 _ _ (g2 _ _ (by rw [dIx_l, h]; exact q))
theorem Is.ixT {ds : List D} {d : D} (g1 : Is M e1 ρ (.tup ds)) (g2 : Is M e2 ρ (.int a)) (h : L2.atI ds a = some d) : Is M (.ix e1 e2) ρ d := fun P E q => by
  simp only [semE, w2]
  exact g1 _ _ (g2 _ _ (by rw [dIx_t, h]; exact q))
theorem Is.fld {n : Nat} {d : D} {v : D} (g : Is M e1 ρ d) (h : ∀ (P : D → Prop) (E : Exc → Prop), P v → dFld M.sig n d P E) : Is M (.fld e1 n) ρ v := fun P E q => by
  simp only [semE, w1]
  exact g _ _ (h _ _ q)
theorem Is.ite {t : IT} {b : Bool} {d : D} (g : IsT M t ρ b) (h1 : b = true → Is M e1 ρ d) (h2 : b = false → Is M e2 ρ d) : Is M (.ite t e1 e2) ρ d := fun P E q => by
  simp only [semE, wIf]
  refine g _ _ ?_
  cases b with
  | true => exact h1 rfl _ _ q
  | false => exact h2 rfl _ _ q
theorem IsT.or {s t : IT} {x y : Bool} (h : IsT M s ρ x) (k : x = false → IsT M t ρ y) : IsT M (.or s t) ρ (x || y) := fun Q E q => by
  simp only [semT, wOr]
  refine h _ _ ?_
  cases x with
  | true => exact q
  | false => exact k rfl _ _ q
theorem IsT.and {s t : IT} {x y : Bool} (h : IsT M s ρ x) (k : x = true → IsT M t ρ y) : IsT M (.and s t) ρ (x && y) := fun Q E q => by
  simp only [semT, wAnd]
  refine h _ _ ?_
  cases x with
  | false => exact q
  | true => exact k rfl _ _ q
theorem IsT.le (g1 : Is M e1 ρ (.int a)) (g2 : Is M e2 ρ (.int b)) : IsT M (.cmp .LtE e1 e2) ρ (decide (a ≤ b)) := fun Q E q => by
  simp only [semT, wTst, w2, cmpD]
  refine g1 _ _ (g2 _ _ ?_)
  rw [dLe_i]
  exact q
theorem IsT.ge (g1 : Is M e1 ρ (.int a)) (g2 : Is M e2 ρ (.int b)) : IsT M (.cmp .GtE e1 e2) ρ (decide (b ≤ a)) := fun Q E q => by
  simp only [semT, wTst, w2, cmpD]
  refine g1 _ _ (g2 _ _ ?_)
  rw [dGe_i]
  exact q
theorem IsT.ne (g1 : Is M e1 ρ (.int a)) (g2 : Is M e2 ρ (.int b)) : IsT M (.cmp .NotEq e1 e2) ρ (!decide (a = b)) := fun Q E q => by
  simp only [semT, wTst, w2, cmpD]
  refine g1 _ _ (g2 _ _ ?_)
  rw [dNe_i]
  exact q
theorem IsT.neD {x y : D} {z : Bool} (g1 : Is M e1 ρ x) (g2 : Is M e2 ρ y) (h : ∀ (P : D → Prop) (E : Exc → Prop), P (.bl z) → dNe x y P E) : IsT M (.cmp .NotEq e1 e2) ρ z := fun Q E q => by
  simp only [semT, wTst, w2, cmpD]
  exact g1 _ _ (g2 _ _ (h _ _ q))
theorem IsT.eqD {x y : D} {z : Bool} (g1 : Is M e1 ρ x) (g2 : Is M e2 ρ y) (h : ∀ (P : D → Prop) (E : Exc → Prop), P (.bl z) → dEq x y P E) : IsT M (.cmp .Eq e1 e2) ρ z := fun Q E q => by
  simp only [semT, wTst, w2, cmpD]
  exact g1 _ _ (g2 _ _ (h _ _ q))
/-- a call that ends -/
theorem Is.call {f : Nat} {es : List IE} {ds : List D} {v : D} (h : IsA M es ρ ds) (q : ∀ (P : D → Prop) (E : Exc → Prop), P v → M.sem f ds P E) : Is M (.call f es) ρ v := fun P E p => call_is h (q P E p)
theorem Is.make {f : Nat} {es : List IE} {ds : List D} {v : D} (h : IsA M es ρ ds) (q : ∀ (P : D → Prop) (E : Exc → Prop), P v → M.ini f ds P E) : Is M (.make f es) ρ v := fun P E p => make_is h (q P E p)
/-- if t: raise C(w) -/
theorem chk {t : IT} {b : Bool} {k f : Nat} {w : Str} {r : List IS} (g : IsT M t ρ b) (hw : w.length ≤ 1000) (h1 : b = true → A.xe ⟨k, [f], [.str w]⟩ ρ) (h0 : b = false → semB M r A ρ) :
    semB M (.iff t [.raise k f (.cst (.str w))] [] :: r) A ρ := by
  show sSeq (semS M (.iff t [.raise k f (.cst (.str w))] [])) (semB M r) A ρ
  simp only [sSeq, semS, sIf, semB, sNil]
  refine g _ _ ?_
  cases b with
  | true =>
    simp only [sRaise, semE, wC, if_true]
    exact ⟨hw, h1 rfl⟩
  | false =>
    simp only [Bool.false_eq_true, if_false]
    exact h0 rfl
/-- a check of the law: if t: return w -/
theorem chkR {t : IT} {b : Bool} {w : D} {r : List IS} (g : IsT M t ρ b) (h1 : b = true → A.rt w) (h0 : b = false → semB M r A ρ) :
    semB M (.iff t [.ret (.cst w)] [] :: r) A ρ := by
  show sSeq (semS M (.iff t [.ret (.cst w)] [])) (semB M r) A ρ
  simp only [sSeq, semS, sIf, semB, sNil]
  refine g _ _ ?_
  cases b with
  | true =>
    simp only [semE, wC, sRet, if_true]
    exact h1 rfl
  | false =>
    simp only [Bool.false_eq_true, if_false]
    exact h0 rfl
theorem iff_t {t : IT} {b1 b2 r : List IS} (g : IsT M t ρ true) (h : semB M b1 { A with nx := semB M r A } ρ) : semB M (.iff t b1 b2 :: r) A ρ := by
  show sSeq (semS M (.iff t b1 b2)) (semB M r) A ρ
  simp only [sSeq, semS, sIf]
  refine g _ _ ?_
  rw [if_pos rfl]
  exact h
theorem iff_f {t : IT} {b1 b2 r : List IS} (g : IsT M t ρ false) (h : semB M b2 { A with nx := semB M r A } ρ) : semB M (.iff t b1 b2 :: r) A ρ := by
  show sSeq (semS M (.iff t b1 b2)) (semB M r) A ρ
  simp only [sSeq, semS, sIf]
  refine g _ _ ?_
  rw [if_neg (by decide)]
  exact h
theorem iff_f0 {t : IT} {b1 r : List IS} (g : IsT M t ρ false) (h : semB M r A ρ) : semB M (.iff t b1 [] :: r) A ρ := iff_f g h
theorem iff_b {t : IT} {b1 b2 r : List IS} {b : Bool} (g : IsT M t ρ b) (h1 : b = true → semB M b1 { A with nx := semB M r A } ρ) (h2 : b = false → semB M b2 { A with nx := semB M r A } ρ) : semB M (.iff t b1 b2 :: r) A ρ := by
  cases b with
  | true => exact iff_t g (h1 rfl)
  | false => exact iff_f g (h2 rfl)
theorem IsT.eq (g1 : Is M e1 ρ (.int a)) (g2 : Is M e2 ρ (.int b)) : IsT M (.cmp .Eq e1 e2) ρ (decide (a = b)) := fun Q E q => by
  simp only [semT, wTst, w2, cmpD]
  refine g1 _ _ (g2 _ _ ?_)
  rw [dEq_i]
  exact q
theorem IsT.lt (g1 : Is M e1 ρ (.int a)) (g2 : Is M e2 ρ (.int b)) : IsT M (.cmp .Lt e1 e2) ρ (decide (a < b)) := fun Q E q => by
  simp only [semT, wTst, w2, cmpD]
  refine g1 _ _ (g2 _ _ ?_)
  rw [dLt_i]
  exact q
theorem IsT.to {t : IT} {b b' : Bool} (g : IsT M t ρ b) (e : b = b') : IsT M t ρ b' := e ▸ g
theorem nil_1 (h : A.nx ρ) : semB M [] A ρ := h
theorem set_1 {i : Nat} {e : IE} {r : List IS} (h : semE M e ρ (fun d => semB M r A (ρ.set i (.val d))) (fun x => A.xe x ρ)) : semB M (.set (.nm i) e :: r) A ρ := h
theorem put_1 {i : Nat} {k e : IE} {r : List IS} {ds : List D} (hi : ρ[i]? = some (.own (.lst ds))) (h : semE M e ρ (fun d => semE M k ρ (fun z' => isInt z' fun z => hasI (ixN ds.length z) fun j => semB M r A (ρ.set i (.own (.lst (ds.set j d))))) (fun x => A.xe x ρ)) (fun x => A.xe x ρ)) : semB M (.put i k e :: r) A ρ := by
  show sSeq (semS M (.put i k e)) (semB M r) A ρ
  simp only [sSeq, semS, sPut, ownL, hi]
  exact h
theorem expr_1 {e : IE} {r : List IS} (h : semE M e ρ (fun _ => semB M r A ρ) (fun x => A.xe x ρ)) : semB M (.expr e :: r) A ρ := by
  show sSeq (semS M (.expr e)) (semB M r) A ρ
  simp only [sSeq, semS, sExpr]
  exact h
theorem ret_1 {e : IE} {r : List IS} (h : semE M e ρ A.rt (fun x => A.xe x ρ)) : semB M (.ret e :: r) A ρ := by
  show sSeq (semS M (.ret e)) (semB M r) A ρ
  simp only [sSeq, semS, sRet]
  exact h
theorem try_1 {b : List IS} {k i : Nat} {s : List IXS} (h : semB M b { A with xe := fun x ρ1 => M.xs.has x.c = true ∧ M.xs.has k = true ∧ i < ρ1.length ∧
  (if M.xs.sub x.c k = true then (match runX M.xs x s with | some none => A.nx (ρ1.set i .emp) | some (some d) => A.rt d | none => False) else A.xe x ρ1) } ρ) : semS M (.try b k i s) A ρ := by
  simp only [semS, sTry]
  exact h
end
end Tr

namespace Tr
open PySem PySem.Spec PyProof.Rows L2
/-! ### more rules -/
section
variable {M : Sm} {e e1 e2 e3 : IE} {ρ : List Slot} {a b c : Int} {A : EndsD}
theorem Is.to {d d' : D} (g : Is M e ρ d) (h : d = d') : Is M e ρ d' := h ▸ g
theorem Is.gtB (g1 : Is M e1 ρ (.int a)) (g2 : Is M e2 ρ (.int b)) : Is M (.cmp .Gt e1 e2) ρ (.bl (decide (b < a))) := fun P E q => by
  simp only [semE, w2, cmpD]
  refine g1 _ _ (g2 _ _ ?_)
  rw [dGt_i]
  exact q
theorem Is.neB (g1 : Is M e1 ρ (.int a)) (g2 : Is M e2 ρ (.int b)) : Is M (.cmp .NotEq e1 e2) ρ (.bl (!decide (a = b))) := fun P E q => by
  simp only [semE, w2, cmpD]
  refine g1 _ _ (g2 _ _ ?_)
  rw [dNe_i]
  exact q
theorem Is.abs (g : Is M e ρ (.int a)) : Is M (.blt .abs [e]) ρ (.int (if a < 0 then -a else a)) := fun P E q => blt_is (IsA.cons g IsA.nil) q
theorem Is.len {ds : List D} (g : Is M e ρ (.lst ds)) (h : ds.length ≤ 1000) : Is M (.blt .len [e]) ρ (.int ds.length) := fun P E q => blt_is (IsA.cons g IsA.nil) q
theorem Is.lenT {ds : List D} (g : Is M e ρ (.tup ds)) (h : ds.length ≤ 1000) : Is M (.blt .len [e]) ρ (.int ds.length) := fun P E q => blt_is (IsA.cons g IsA.nil) q
theorem Is.listL {ds : List D} (g : Is M e ρ (.lst ds)) : Is M (.blt .list [e]) ρ (.lst ds) := fun P E q => blt_is (IsA.cons g IsA.nil) q
theorem Is.listT {ds : List D} (g : Is M e ρ (.tup ds)) : Is M (.blt .list [e]) ρ (.lst ds) := fun P E q => blt_is (IsA.cons g IsA.nil) q
theorem Is.tupleL {ds : List D} (g : Is M e ρ (.lst ds)) : Is M (.blt .tuple [e]) ρ (.tup ds) := fun P E q => blt_is (IsA.cons g IsA.nil) q
theorem Is.tupleT {ds : List D} (g : Is M e ρ (.tup ds)) : Is M (.blt .tuple [e]) ρ (.tup ds) := fun P E q => blt_is (IsA.cons g IsA.nil) q
theorem Is.catL {xs ys : List D} (g1 : Is M e1 ρ (.lst xs)) (g2 : Is M e2 ρ (.lst ys)) (h : xs.length + ys.length ≤ 1000) : Is M (.bin .Add e1 e2) ρ (.lst (xs ++ ys)) := fun P E q => by
  simp only [semE, w2, binD]
  exact g1 _ _ (g2 _ _ ⟨Nat.le_of_lt (L2.small1000 h), q⟩)
theorem cpow_sm {b d : Int} (h : 0 ≤ d ∧ d ≤ 1000000) (hb : -1000 ≤ b ∧ b ≤ 1000) : CPow b d := ⟨h.1, h.2, by omega⟩
theorem Is.shl (g1 : Is M e1 ρ (.int a)) (g2 : Is M e2 ρ (.int b)) (h : 0 ≤ b ∧ b ≤ 1000000) (ha : -1000 ≤ a ∧ a ≤ 1000) : Is M (.bin .LShift e1 e2) ρ (.int (a * 2 ^ b.toNat)) := fun P E q => by
  simp only [semE, w2, binD]
  exact g1 _ _ (g2 _ _ (by rw [dShl_i]; exact ⟨cpow_sm h ha, q⟩))
theorem Is.shl1 (g2 : Is M e ρ (.int b)) (h : 0 ≤ b ∧ b ≤ 1000000) : Is M (.bin .LShift (.cst (.int 1)) e) ρ (.int (2 ^ b.toNat)) :=
  (Is.shl Is.cst g2 h (by decide)).to (by rw [Int.one_mul])
theorem IsT.btwL (g1 : Is M e1 ρ (.int a)) (g2 : Is M e2 ρ (.int b)) (g3 : Is M e3 ρ (.int c)) : IsT M (.chain e1 [.LtE, .Lt] [e2, e3]) ρ (decide (a ≤ b) && decide (b < c)) := fun Q E q => by
  simp only [semT, semL, cmpD, wTst, wChain, wLinks]
  refine g1 _ _ (g2 _ _ ?_)
  rw [dLe_i]
  by_cases h1 : a ≤ b
  · simp only [h1, decide_true, Bool.true_and] at q ⊢
    simp only [isTru, dTru, if_true]
    refine g3 _ _ ?_
    rw [dLt_i]
    exact q
  · simp only [h1, decide_false, Bool.false_and] at q ⊢
    simp only [isTru, dTru, if_false, Bool.false_eq_true]
    exact q
theorem Is.andB {x y : Bool} (g1 : Is M e1 ρ (.bl x)) (g2 : x = true → Is M e2 ρ (.bl y)) : Is M (.and e1 e2) ρ (.bl (x && y)) := fun P E q => by
  simp only [semE, wAndV]
  refine g1 _ _ ?_
  simp only [isTru, dTru]
  cases x with
  | true => exact g2 rfl _ _ q
  | false => exact q
theorem Is.orB {x y : Bool} (g1 : Is M e1 ρ (.bl x)) (g2 : x = false → Is M e2 ρ (.bl y)) : Is M (.or e1 e2) ρ (.bl (x || y)) := fun P E q => by
  simp only [semE, wOrV]
  refine g1 _ _ ?_
  simp only [isTru, dTru]
  cases x with
  | false => exact g2 rfl _ _ q
  | true => exact q
theorem Is.eqB (g1 : Is M e1 ρ (.int a)) (g2 : Is M e2 ρ (.int b)) : Is M (.cmp .Eq e1 e2) ρ (.bl (decide (a = b))) := fun P E q => by
  simp only [semE, w2, cmpD]
  refine g1 _ _ (g2 _ _ ?_)
  rw [dEq_i]
  exact q
/-- a method's call -/
theorem meth_is {i k f : Nat} {ns : List Nat} {vs ds : List D} {es : List IE} {P : D → Prop} {E : Exc → Prop} (g : Is M e ρ (.ins k ns vs)) (hf : ns.contains i = false) (hm : M.mt k i = some f) (h : IsA M es ρ ds) (q : M.sem f (.ins k ns vs :: ds) P E) : semE M (.meth i e es) ρ P E := by
  simp only [semE, wMeth]
  refine g _ _ ⟨hf, ?_⟩
  rw [hm]
  simp only [Option.map_some, hasI]
  exact h _ _ q
theorem Is.meth {i k f : Nat} {ns : List Nat} {vs ds : List D} {es : List IE} {v : D} (g : Is M e ρ (.ins k ns vs)) (hf : ns.contains i = false) (hm : M.mt k i = some f) (h : IsA M es ρ ds) (q : ∀ (P : D → Prop) (E : Exc → Prop), P v → M.sem f (.ins k ns vs :: ds) P E) : Is M (.meth i e es) ρ v := fun P E p => meth_is g hf hm h (q P E p)
theorem try_c {b r : List IS} {k i : Nat} {s : List IXS} (h : semB M b { A with nx := semB M r A, xe := fun x ρ1 => M.xs.has x.c = true ∧ M.xs.has k = true ∧ i < ρ1.length ∧
  (if M.xs.sub x.c k = true then (match runX M.xs x s with | some none => semB M r A (ρ1.set i .emp) | some (some d) => A.rt d | none => False) else A.xe x ρ1) } ρ) : semB M (.try b k i s :: r) A ρ := by
  show sSeq (semS M (.try b k i s)) (semB M r) A ρ
  exact try_1 (A := { A with nx := semB M r A }) h
theorem semS_b {s : IS} (h : semB M [s] A ρ) : semS M s A ρ := h
theorem new_1 {i : Nat} {r : List IS} {ds : List D} (g : Is M e ρ (.lst ds)) (h : semB M r A (ρ.set i (.own (.lst ds)))) : semB M (.new i e :: r) A ρ := by
  show sSeq (semS M (.new i e)) (semB M r) A ρ
  simp only [sSeq, semS, sNew]
  exact g _ _ h
theorem app_1 {i : Nat} {r : List IS} {ds : List D} {d : D} (hi : ρ[i]? = some (.own (.lst ds))) (g : Is M e ρ d) (hl : ds.length < 1000) (h : semB M r A (ρ.set i (.own (.lst (ds ++ [d]))))) : semB M (.app i e :: r) A ρ := by
  show sSeq (semS M (.app i e)) (semB M r) A ρ
  simp only [sSeq, semS, sApp, ownL, hi]
  exact g _ _ ⟨L2.small1000 (by omega), h⟩
theorem putI {i j : Nat} {k : IE} {z : Int} {r : List IS} {ds : List D} {d : D} (hi : ρ[i]? = some (.own (.lst ds))) (g : Is M e ρ d) (gk : Is M k ρ (.int z)) (hj : ixN ds.length z = some j) (h : semB M r A (ρ.set i (.own (.lst (ds.set j d))))) : semB M (.put i k e :: r) A ρ := by
  refine put_1 hi (g _ _ (gk _ _ ?_))
  rw [isInt_d, hj]
  exact h
theorem frz_1 {i : Nat} {r : List IS} {ds : List D} (hi : ρ[i]? = some (.own (.lst ds))) (h : semB M r A (ρ.set i (.val (.lst ds)))) : semB M (.frz i :: r) A ρ := by
  show sSeq (semS M (.frz i)) (semB M r) A ρ
  simp only [sSeq, semS, sFrz, ownL, hi]
  exact h
end
section
variable {M : Sm} {e : IE} {ρ : List Slot} {A : EndsD} {r : List IS} {k m : Nat} {ns : List Nat} {vs : List D}
theorem fld_1 (h0 : ρ[0]? = some (.own (.ins k ns vs))) (hk : k < M.sig.fld.length) (hc : (M.sig.fld.getD k []).contains m = true) (hl : ns.length < 900) (hn : ns.contains m = false)
    (h : semE M e ρ (fun d => semB M r A (ρ.set 0 (.own (.ins k (ns ++ [m]) (vs ++ [d]))))) (fun x => A.xe x ρ)) : semB M (.fld m e :: r) A ρ := by
  show sSeq (semS M (.fld m e)) (semB M r) A ρ
  simp only [sSeq, semS, Tr.sFld, h0, ownI]
  have w : ∀ d, semB M r A (ρ.set 0 (.own (.ins k (ns ++ [m]) (vs ++ [d])))) → (k < M.sig.fld.length ∧ (M.sig.fld.getD k []).contains m = true ∧ ns.length < 900 ∧ ns.contains m = false ∧ semB M r A (ρ.set 0 (.own (.ins k (ns ++ [m]) (vs ++ [d]))))) := fun d g => ⟨hk, hc, hl, hn, g⟩
  have : (fun d => semB M r A (ρ.set 0 (.own (.ins k (ns ++ [m]) (vs ++ [d]))))) = fun d => (k < M.sig.fld.length ∧ (M.sig.fld.getD k []).contains m = true ∧ ns.length < 900 ∧ ns.contains m = false ∧ semB M r A (ρ.set 0 (.own (.ins k (ns ++ [m]) (vs ++ [d]))))) := funext fun d => propext ⟨w d, fun g => g.2.2.2.2⟩
  rwa [this] at h
theorem fldP_1 (h0 : ρ[0]? = some (.own (.ins k ns vs))) (hk : k < M.sig.fld.length) (hc : (M.sig.fld.getD k []).contains m = true) (hl : ns.length < 900) (hn : ns.length = vs.length)
    (h : semE M e ρ (fun d => semB M r A (ρ.set 0 (.own (.ins k (putNs m ns) (putDs m d ns vs))))) (fun x => A.xe x ρ)) : semB M (.fldP m e :: r) A ρ := by
  show sSeq (semS M (.fldP m e)) (semB M r) A ρ
  simp only [sSeq, semS, sFldP, stF, h0, ownI']
  have : (fun d => semB M r A (ρ.set 0 (.own (.ins k (putNs m ns) (putDs m d ns vs))))) = fun d => (k < M.sig.fld.length ∧ (M.sig.fld.getD k []).contains m = true ∧ ns.length < 900 ∧ ns.length = vs.length ∧ semB M r A (ρ.set 0 (.own (.ins k (putNs m ns) (putDs m d ns vs))))) := funext fun d => propext ⟨fun g => ⟨hk, hc, hl, hn, g⟩, fun g => g.2.2.2.2⟩
  rwa [this] at h
theorem setF_1 {ts : List (Bool × Nat)} (h : semE M e ρ (fun d => isTup d fun ds => ds.length = ts.length ∧ stF M.sig ts ds ρ (semB M r A)) (fun x => A.xe x ρ)) : semB M (.setF ts e :: r) A ρ := by
  show sSeq (semS M (.setF ts e)) (semB M r) A ρ
  simp only [sSeq, semS, sSetF]
  exact h
theorem callK_is {s : Nat} {sh : Shp} {es kes : List IE} {ds zs xs : List D} {P : D → Prop} {E : Exc → Prop} (hs : M.shf s = some sh) (ha : IsA M es ρ ds) (hk : IsA M kes ρ zs) (l1 : ds.length = sh.n) (l2 : zs.length = sh.ks.length) (e : arrD ds zs sh.arr = some xs) (q : M.sem sh.k xs P E) : semE M (.callK s es kes) ρ P E := by
  simp only [semE]
  rw [hs]
  exact mkK_of ha hk l1 l2 e q
theorem makeK_is {s : Nat} {sh : Shp} {es kes : List IE} {ds zs xs : List D} {P : D → Prop} {E : Exc → Prop} (hs : M.shp s = some sh) (ha : IsA M es ρ ds) (hk : IsA M kes ρ zs) (l1 : ds.length = sh.n) (l2 : zs.length = sh.ks.length) (e : arrD ds zs sh.arr = some xs) (q : M.ini sh.k xs P E) : semE M (.makeK s es kes) ρ P E := by
  simp only [semE]
  rw [hs]
  exact mkK_of ha hk l1 l2 e q
theorem Is.fldO {d : D} (h0 : ρ[0]? = some (.own (.ins k ns vs))) (hk : k < M.sig.fld.length) (hn : (M.sig.fld.getD k []).contains m = true) (hl : look m ns vs = some d) : Is M (.fldO m) ρ d := fun P E q => by
  simp only [semE, wFldO, h0, ownI']
  rw [hl]
  exact ⟨hk, hn, q⟩
theorem meth_bind {es : List IE} {P : D → Prop} {E : Exc → Prop} {i : Nat} (g : semE M e ρ (fun o => match o with
  | .ins k ns vs => ns.contains i = false ∧ hasI ((M.mt k i).map M.sem) fun f => semA M es ρ (fun ds => f (.ins k ns vs :: ds) P E) E
  | _ => False) E) : semE M (.meth i e es) ρ P E := by
  simp only [semE, wMeth]
  exact g
end
/-! ### rows of whole numbers compared -/
theorem toPs_map {α : Type} (f : α → D) : ∀ xs : List α, toPs (xs.map f) = xs.map fun x => toP (f x)
  | [] => rfl
  | x :: r => by rw [List.map_cons, toPs, toPs_map f r]; rfl
theorem eqvAll_ints : ∀ xs ys : List Int, PyData.eqvAll (xs.map fun i => .int i) (ys.map fun i => .int i) = decide (xs = ys)
  | [], [] => rfl
  | [], y :: ys => rfl
  | x :: xs, [] => rfl
  | x :: xs, y :: ys => by
    rw [List.map_cons, List.map_cons, PyData.eqvAll, eqvAll_ints xs ys, PyData.eqv, Bool.eq_iff_iff]
    simp
theorem shaped_ints (xs : List Int) : SeqAt.shaped (.tuple (xs.map fun i => .int i)) = true ∧ SeqAt.shaped (.list (xs.map fun i => .int i)) = true := by
  have h : PyData.canLayAll0 (xs.map fun i => PyData.int i) = true ∧ PyData.depthAll (xs.map fun i => PyData.int i) ≤ 1 := by
    induction xs with
    | nil => exact ⟨rfl, by decide⟩
    | cons x r ih =>
      rw [List.map_cons, PyData.canLayAll0, PyData.depthAll, ih.1]
      exact ⟨rfl, Nat.max_le.mpr ⟨by simp [PyData.depth], ih.2⟩⟩
  constructor
  all_goals
    unfold SeqAt.shaped
    simp only [PyData.canLay0, PyData.depth, h.1, Bool.true_and]
    exact decide_eq_true (by omega)
section
variable {P : D → Prop} {E : Exc → Prop} {xs ys : List Int} {s t : Str}
theorem dNe_ti : dNe (.tup (xs.map .int)) (.tup (ys.map .int)) P E = P (.bl (!decide (xs = ys))) := by
  show dEqG true _ _ P E = _
  unfold dEqG
  rw [toP, toP, toPs_map, toPs_map, PyData.eqv]
  rw [show (fun x : Int => toP (.int x)) = fun i => .int i from rfl, (shaped_ints xs).1, (shaped_ints ys).1, eqvAll_ints]
  simp
theorem dEq_ti : dEq (.tup (xs.map .int)) (.tup (ys.map .int)) P E = P (.bl (decide (xs = ys))) := by
  show dEqG false _ _ P E = _
  unfold dEqG
  rw [toP, toP, toPs_map, toPs_map, PyData.eqv]
  rw [show (fun x : Int => toP (.int x)) = fun i => .int i from rfl, (shaped_ints xs).1, (shaped_ints ys).1, eqvAll_ints]
  simp
theorem dNe_li : dNe (.lst (xs.map .int)) (.lst (ys.map .int)) P E = P (.bl (!decide (xs = ys))) := by
  show dEqG true _ _ P E = _
  unfold dEqG
  rw [toP, toP, toPs_map, toPs_map, PyData.eqv]
  rw [show (fun x : Int => toP (.int x)) = fun i => .int i from rfl, (shaped_ints xs).2, (shaped_ints ys).2, eqvAll_ints]
  simp
theorem dEq_li : dEq (.lst (xs.map .int)) (.lst (ys.map .int)) P E = P (.bl (decide (xs = ys))) := by
  show dEqG false _ _ P E = _
  unfold dEqG
  rw [toP, toP, toPs_map, toPs_map, PyData.eqv]
  rw [show (fun x : Int => toP (.int x)) = fun i => .int i from rfl, (shaped_ints xs).2, (shaped_ints ys).2, eqvAll_ints]
  simp
theorem dNe_s : dNe (.str s) (.str t) P E = P (.bl (!decide (s = t))) := id rfl
theorem dEq_s : dEq (.str s) (.str t) P E = P (.bl (decide (s = t))) := id rfl
end
section
variable {M : Sm} {e e1 e2 : IE} {ρ : List Slot} {xs ys : List Int} {s t : Str}
theorem IsT.neT (g1 : Is M e1 ρ (.tup (xs.map .int))) (g2 : Is M e2 ρ (.tup (ys.map .int))) : IsT M (.cmp .NotEq e1 e2) ρ (!decide (xs = ys)) := IsT.neD g1 g2 fun P E q => by rw [dNe_ti]; exact q
theorem IsT.eqT (g1 : Is M e1 ρ (.tup (xs.map .int))) (g2 : Is M e2 ρ (.tup (ys.map .int))) : IsT M (.cmp .Eq e1 e2) ρ (decide (xs = ys)) := IsT.eqD g1 g2 fun P E q => by rw [dEq_ti]; exact q
theorem IsT.neL (g1 : Is M e1 ρ (.lst (xs.map .int))) (g2 : Is M e2 ρ (.lst (ys.map .int))) : IsT M (.cmp .NotEq e1 e2) ρ (!decide (xs = ys)) := IsT.neD g1 g2 fun P E q => by rw [dNe_li]; exact q
theorem IsT.eqL (g1 : Is M e1 ρ (.lst (xs.map .int))) (g2 : Is M e2 ρ (.lst (ys.map .int))) : IsT M (.cmp .Eq e1 e2) ρ (decide (xs = ys)) := IsT.eqD g1 g2 fun P E q => by rw [dEq_li]; exact q
theorem IsT.neS (g1 : Is M e1 ρ (.str s)) (g2 : Is M e2 ρ (.str t)) : IsT M (.cmp .NotEq e1 e2) ρ (!decide (s = t)) := IsT.neD g1 g2 fun P E q => by rw [dNe_s]; exact q
theorem IsT.eqS (g1 : Is M e1 ρ (.str s)) (g2 : Is M e2 ρ (.str t)) : IsT M (.cmp .Eq e1 e2) ρ (decide (s = t)) := IsT.eqD g1 g2 fun P E q => by rw [dEq_s]; exact q
theorem Is.eqTB (g1 : Is M e1 ρ (.tup (xs.map .int))) (g2 : Is M e2 ρ (.tup (ys.map .int))) : Is M (.cmp .Eq e1 e2) ρ (.bl (decide (xs = ys))) := fun P E q => by
  simp only [semE, w2, cmpD]
  exact g1 _ _ (g2 _ _ (by rw [dEq_ti]; exact q))
/-- [.. for i in range(n)] of plain things -/
theorem Is.lcRg {α : Type} {own : List (Str × Nat)} {i : Nat} {e n : IE} {k : Int} (f : Int → α) (out : α → D) (gn : Is M n ρ (.int k)) (hk : 0 ≤ k ∧ k ≤ 1000) (ho : noOwn ρ (own.map (·.2)) = true)
    (h : ∀ a, 0 ≤ a → a < k → Is M e ((wipeR ρ (own.map (·.2))).set i (.val (.int a))) (out (f a))) : Is M (.lc own (.nm i) (.rg1 n) [] e) ρ (.lst ((rgI 0 k).map fun a => out (f a))) := fun P E q => by
  simp only [semE, wLc]
  refine ⟨ho, ?_⟩
  simp only [semI, wRg1]
  refine gn _ _ ?_
  rw [isInt_d]
  refine ⟨by unfold small62; omega, ?_⟩
  rw [rgD_I]
  refine lc_map f out _ (by rw [rgI_len]; omega) (fun a ha Q hQ => ?_) ?_
  · obtain ⟨h0, h1⟩ := mem_rgI ha
    exact h a h0 h1 _ _ hQ
  · rw [List.map_map]
    exact q
/-- [.. for x in xs] of plain things, xs a list -/
theorem Is.lcL {α β : Type} {own : List (Str × Nat)} {i : Nat} {e s : IE} {mk : α → D} (f : α → β) (out : β → D) {xs : List α} (gs : Is M s ρ (.lst (xs.map mk))) (hl : xs.length ≤ 1000) (ho : noOwn ρ (own.map (·.2)) = true)
    (h : ∀ a ∈ xs, Is M e ((wipeR ρ (own.map (·.2))).set i (.val (mk a))) (out (f a))) : Is M (.lc own (.nm i) (.lst s) [] e) ρ (.lst (xs.map fun a => out (f a))) := fun P E q => by
  simp only [semE, wLc]
  refine ⟨ho, ?_⟩
  simp only [semI, wLstI]
  refine gs _ _ ?_
  simp only [isLst]
  refine lc_map f out _ hl (fun a ha Q hQ => h a ha _ _ hQ) ?_
  rw [List.map_map]
  exact q
/-- the same, xs a tuple -/
theorem Is.lcT {α β : Type} {own : List (Str × Nat)} {i : Nat} {e s : IE} {mk : α → D} (f : α → β) (out : β → D) {xs : List α} (gs : Is M s ρ (.tup (xs.map mk))) (hl : xs.length ≤ 1000) (ho : noOwn ρ (own.map (·.2)) = true)
    (h : ∀ a ∈ xs, Is M e ((wipeR ρ (own.map (·.2))).set i (.val (mk a))) (out (f a))) : Is M (.lc own (.nm i) (.tup s) [] e) ρ (.lst (xs.map fun a => out (f a))) := fun P E q => by
  simp only [semE, wLc]
  refine ⟨ho, ?_⟩
  simp only [semI, wTupI]
  refine gs _ _ ?_
  simp only [isTup]
  refine lc_map f out _ hl (fun a ha Q hQ => h a ha _ _ hQ) ?_
  rw [List.map_map]
  exact q
end
end Tr

namespace Tr
open PySem PySem.Spec PyProof.Rows L2
/-! ### more rules -/
section
variable {M : Sm} {e e1 e2 e3 e4 : IE} {ρ : List Slot} {a b c d : Int} {A : EndsD}
theorem Is.btwB (g1 : Is M e1 ρ (.int a)) (g2 : Is M e2 ρ (.int b)) (g3 : Is M e3 ρ (.int c)) : Is M (.chain e1 [.LtE, .LtE] [e2, e3]) ρ (.bl (btw a b c)) := fun P E q => by
  simp only [semE, semL, cmpD, wChain, wLinks]
  refine g1 _ _ (g2 _ _ ?_)
  rw [dLe_i]
  unfold Tr.btw at q
  by_cases h1 : a ≤ b
  · simp only [h1, decide_true, Bool.true_and] at q ⊢
    simp only [isTru, dTru, if_true]
    refine g3 _ _ ?_
    rw [dLe_i]
    exact q
  · simp only [h1, decide_false, Bool.false_and] at q ⊢
    simp only [isTru, dTru, if_false, Bool.false_eq_true]
    exact q
theorem Is.lellB (g1 : Is M e1 ρ (.int a)) (g2 : Is M e2 ρ (.int b)) (g3 : Is M e3 ρ (.int c)) (g4 : Is M e4 ρ (.int d)) : Is M (.chain e1 [.LtE, .Lt, .Lt] [e2, e3, e4]) ρ (.bl (decide (a ≤ b) && decide (b < c) && decide (c < d))) := fun P E q => by
  simp only [semE, semL, cmpD, wChain, wLinks]
  refine g1 _ _ (g2 _ _ ?_)
  rw [dLe_i]
  by_cases h1 : a ≤ b
  · simp only [h1, decide_true, Bool.true_and] at q ⊢
    simp only [isTru, dTru, if_true]
    refine g3 _ _ ?_
    rw [dLt_i]
    by_cases h2 : b < c
    · simp only [h2, decide_true, Bool.true_and] at q ⊢
      simp only [isTru, dTru, if_true]
      refine g4 _ _ ?_
      rw [dLt_i]
      exact q
    · simp only [h2, decide_false, Bool.false_and] at q ⊢
      simp only [isTru, dTru, if_false, Bool.false_eq_true]
      exact q
  · simp only [h1, decide_false, Bool.false_and] at q ⊢
    simp only [isTru, dTru, if_false, Bool.false_eq_true]
    exact q
theorem Is.allB {bs : List Bool} (g : Is M e ρ (.lst (bs.map .bl))) : Is M (.blt .all [e]) ρ (.bl (bs.all id)) := fun P E q => blt_is (IsA.cons g IsA.nil) (bAll_m (E := E) bs q)
theorem Is.leB (g1 : Is M e1 ρ (.int a)) (g2 : Is M e2 ρ (.int b)) : Is M (.cmp .LtE e1 e2) ρ (.bl (decide (a ≤ b))) := fun P E q => by
  simp only [semE, w2, cmpD]
  exact g1 _ _ (g2 _ _ (by rw [dLe_i]; exact q))
theorem Is.ltB (g1 : Is M e1 ρ (.int a)) (g2 : Is M e2 ρ (.int b)) : Is M (.cmp .Lt e1 e2) ρ (.bl (decide (a < b))) := fun P E q => by
  simp only [semE, w2, cmpD]
  exact g1 _ _ (g2 _ _ (by rw [dLt_i]; exact q))
theorem Is.max2 (g1 : Is M e1 ρ (.int a)) (g2 : Is M e2 ρ (.int b)) : Is M (.blt .max [e1, e2]) ρ (.int (if b > a then b else a)) := fun P E q => blt_is (IsA.cons g1 (IsA.cons g2 IsA.nil)) (by
  show bMax [.int a, .int b] P E
  rw [bMax_i]
  exact q)
theorem IsT.isN {x : D} (g : Is M e1 ρ x) : IsT M (.cmp .Is e1 (.cst .non)) ρ (Tr.isNon x) := fun Q E q => by
  simp only [semT, wTst, w2, cmpD, semE, wC]
  refine g _ _ ?_
  have e : dIs false x .non = fun P _ => P (.bl (Tr.isNon x)) := by cases x <;> rfl
  rw [e]
  exact q
theorem Is.isNB {x : D} (g : Is M e1 ρ x) : Is M (.cmp .Is e1 (.cst .non)) ρ (.bl (Tr.isNon x)) := fun P E q => by
  simp only [semE, w2, cmpD, wC]
  refine g _ _ ?_
  have e : dIs false x .non = fun P _ => P (.bl (Tr.isNon x)) := by cases x <;> rfl
  rw [e]
  exact q
theorem Is.isNotB {x : D} (g : Is M e1 ρ x) : Is M (.cmp .IsNot e1 (.cst .non)) ρ (.bl (!Tr.isNon x)) := fun P E q => by
  simp only [semE, w2, cmpD, wC]
  refine g _ _ ?_
  have e : dIs true x .non = fun P _ => P (.bl (!Tr.isNon x)) := by cases x <;> rfl
  rw [e]
  exact q
theorem semG_2 {i j : Nat} {a b : D} {P : List Slot → Prop} (h : P ((ρ.set i (.val a)).set j (.val b))) : semG (.tup [.nm i, .nm j]) (.tup [a, b]) ρ P := by
  simp only [semB, semS, semE, semA, semL, semT, semC, semI, semG, semGs, sSeq, sIf, sSet, sRet, sRetN, sExpr, sNil, sBrk, sCnt, sFor, sNew, sApp, sPut, sFrz, ownL, isInt, isLst, gN, gT, wTst, wTru, wAnd, wOr, wNot, wAndV, wOrV, wNotV, wIf, wChain, wLinks, w2, w1, wVar, wC, wN, wCons, wNil, wTup, wLst, wIxO, wLenO, wRg1, wRg2, wTupI, wLstI, isTup, cmpD, binD, biD, isTru, dTru, slots0, wLc, noOwn, lcL, wYes, wipeR, List.all_cons, List.all_nil, bAll, bSum, allBl, allI, Option.map_some, Bool.and_self, Bool.and_true, Bool.true_and, dEq_i, dNe_i, dEq_b, dNe_b, dLt_i, dLe_i, dGt_i, dGe_i, dAdd_i, dSub_i, dMul_i, dDiv_i, dMod_i, dPow_i, dShl_i, dShr_i, dNeg_i, dIs_b, dIx_l, dIx_t, bInt_i, bInt_b, bLen_l, bLen_t, bAbs_i, bMax_i, bMax_3, bMin_i, bTup_l, bTup_t, bIsqrt_i, dIsB_ii, dIsB_ib, dIsB_tt, dIsB_ll, kit_ii, kit_ib, kit_tt, kit_ll, List.map_cons, List.map_nil, List.length_cons, List.length_nil, List.replicate_succ, List.replicate_zero, List.append_nil, List.nil_append, List.cons_append, List.getElem?_cons_zero, List.getElem?_cons_succ, List.set_cons_zero, List.set_cons_succ, List.length_map, Nat.reduceAdd, Nat.reduceSub, Nat.zero_add, Nat.add_zero, Nat.sub_self, true_and, and_true, decide_eq_true_eq, Bool.false_eq_true, Bool.not_eq_true', Bool.not_true, Bool.not_false, decide_eq_false_iff_not, if_true, if_false, ite_true, ite_false, eq_self_iff_true, Int.reduceLT, Int.reduceLE, reduceCtorEq, gsCons, gsNil]
  exact h
theorem semG_3 {i j k : Nat} {a b c : D} {P : List Slot → Prop} (h : P (((ρ.set i (.val a)).set j (.val b)).set k (.val c))) : semG (.tup [.nm i, .nm j, .nm k]) (.tup [a, b, c]) ρ P := by
  simp only [semB, semS, semE, semA, semL, semT, semC, semI, semG, semGs, sSeq, sIf, sSet, sRet, sRetN, sExpr, sNil, sBrk, sCnt, sFor, sNew, sApp, sPut, sFrz, ownL, isInt, isLst, gN, gT, wTst, wTru, wAnd, wOr, wNot, wAndV, wOrV, wNotV, wIf, wChain, wLinks, w2, w1, wVar, wC, wN, wCons, wNil, wTup, wLst, wIxO, wLenO, wRg1, wRg2, wTupI, wLstI, isTup, cmpD, binD, biD, isTru, dTru, slots0, wLc, noOwn, lcL, wYes, wipeR, List.all_cons, List.all_nil, bAll, bSum, allBl, allI, Option.map_some, Bool.and_self, Bool.and_true, Bool.true_and, dEq_i, dNe_i, dEq_b, dNe_b, dLt_i, dLe_i, dGt_i, dGe_i, dAdd_i, dSub_i, dMul_i, dDiv_i, dMod_i, dPow_i, dShl_i, dShr_i, dNeg_i, dIs_b, dIx_l, dIx_t, bInt_i, bInt_b, bLen_l, bLen_t, bAbs_i, bMax_i, bMax_3, bMin_i, bTup_l, bTup_t, bIsqrt_i, dIsB_ii, dIsB_ib, dIsB_tt, dIsB_ll, kit_ii, kit_ib, kit_tt, kit_ll, List.map_cons, List.map_nil, List.length_cons, List.length_nil, List.replicate_succ, List.replicate_zero, List.append_nil, List.nil_append, List.cons_append, List.getElem?_cons_zero, List.getElem?_cons_succ, List.set_cons_zero, List.set_cons_succ, List.length_map, Nat.reduceAdd, Nat.reduceSub, Nat.zero_add, Nat.add_zero, Nat.sub_self, true_and, and_true, decide_eq_true_eq, Bool.false_eq_true, Bool.not_eq_true', Bool.not_true, Bool.not_false, decide_eq_false_iff_not, if_true, if_false, ite_true, ite_false, eq_self_iff_true, Int.reduceLT, Int.reduceLE, reduceCtorEq, gsCons, gsNil]
  exact h
theorem set_g {g : IG} {r : List IS} (h : semE M e ρ (fun d => semG g d ρ (semB M r A)) (fun x => A.xe x ρ)) : semB M (.set g e :: r) A ρ := h
theorem cnt_1 {r : List IS} (h : A.ct ρ) : semB M (.cnt :: r) A ρ := h
theorem brk_1 {r : List IS} (h : A.bk ρ) : semB M (.brk :: r) A ρ := h
theorem ix_is {k : IE} {P : D → Prop} {E : Exc → Prop} (h : semE M e ρ (fun d => semE M k ρ (fun z => dIx d z P E) E) E) : semE M (.ix e k) ρ P E := h
/-- [.. for a, b in xs] of plain things, xs a list of pairs -/
theorem Is.lcL2 {α β : Type} {own : List (Str × Nat)} {i j : Nat} {s : IE} {m1 m2 : α → D} (f : α → β) (out : β → D) {xs : List α} (gs : Is M s ρ (.lst (xs.map fun a => .tup [m1 a, m2 a]))) (hl : xs.length ≤ 1000) (ho : noOwn ρ (own.map (·.2)) = true)
    (h : ∀ a ∈ xs, Is M e (((wipeR ρ (own.map (·.2))).set i (.val (m1 a))).set j (.val (m2 a))) (out (f a))) : Is M (.lc own (.tup [.nm i, .nm j]) (.lst s) [] e) ρ (.lst (xs.map fun a => out (f a))) := fun P E q => by
  simp only [semE, wLc]
  refine ⟨ho, ?_⟩
  simp only [semI, wLstI]
  refine gs _ _ ?_
  simp only [isLst]
  refine lc_map f out _ hl (fun a ha Q hQ => semG_2 (h a ha _ _ hQ)) ?_
  rw [List.map_map]
  exact q
theorem lz_core {α β γ : Type} {own : List (Str × Nat)} {i j : Nat} {m1 : α → D} {m2 : γ → D} (f : α → γ → β) (out : β → D) {xs : List α} {ys : List γ} {P : D → Prop} {E : Exc → Prop} (hl : xs.length ≤ 1000)
    (h : ∀ a ∈ xs, ∀ b ∈ ys, Is M e (((wipeR ρ (own.map (·.2))).set i (.val (m1 a))).set j (.val (m2 b))) (out (f a b))) (q : P (.lst ((xs.zip ys).map fun a => out (f a.1 a.2)))) :
    lcL (semG (.tup [.nm i, .nm j])) wYes (semE M e) (wipeR ρ (own.map (·.2))) ((xs.zip ys).map fun a => .tup [m1 a.1, m2 a.2]) [] fun acc => P (.lst acc) := by
  refine lc_map (fun a : α × γ => f a.1 a.2) out (mk := fun a => .tup [m1 a.1, m2 a.2]) _ (by rw [List.length_zip]; omega) (fun a ha Q hQ => ?_) ?_
  · obtain ⟨h1, h2⟩ := List.of_mem_zip ha
    exact semG_2 (h _ h1 _ h2 _ _ hQ)
  · rw [List.map_map]
    exact q
theorem Is.lcZ {α β γ : Type} {own : List (Str × Nat)} {i j : Nat} {s1 s2 : IE} {d1 d2 : D} {m1 : α → D} {m2 : γ → D} (f : α → γ → β) (out : β → D) {xs : List α} {ys : List γ} (g1 : Is M s1 ρ d1) (g2 : Is M s2 ρ d2) (k1 : seqD d1 = some (xs.map m1)) (k2 : seqD d2 = some (ys.map m2)) (hl : xs.length ≤ 1000) (ho : noOwn ρ (own.map (·.2)) = true)
    (h : ∀ a ∈ xs, ∀ b ∈ ys, Is M e (((wipeR ρ (own.map (·.2))).set i (.val (m1 a))).set j (.val (m2 b))) (out (f a b))) : Is M (.lc own (.tup [.nm i, .nm j]) (.zip [s1, s2]) [] e) ρ (.lst ((xs.zip ys).map fun a => out (f a.1 a.2))) := fun P E q => by
  simp only [semE, wLc]
  refine ⟨ho, ?_⟩
  simp only [semI, wZipN]
  refine (IsA.cons g1 (IsA.cons g2 IsA.nil)) _ _ ⟨rfl, ?_⟩
  rw [seqDs2 k1 k2, hasI_s, zipD2]
  exact lz_core f out (E := E) hl h q
theorem aug_1 {i : Nat} {x y : Int} {r : List IS} (hi : ρ[i]? = some (.val (.int x))) (g : Is M e ρ (.int y)) (h : semB M r A (ρ.set i (.val (.int (x + y))))) : semB M (.aug i .Add e :: r) A ρ := by
  show sSeq (semS M (.aug i .Add e)) (semB M r) A ρ
  simp only [sSeq, semS, sAug, augD, hi]
  exact g _ _ h
theorem sfor_rev {g : IG} {b : List IS} {n : Int} (he : Is M e ρ (.int n)) (hn : small62 n) (h : forL (semG g) (semB M b) (rgD 0 n).reverse A ρ) : semS M (.for g (.rev1 e) b) A ρ := by
  simp only [semS, sFor, semI, wRev1]
  exact he _ _ (by rw [isInt_d]; exact ⟨hn, h⟩)
theorem new_k {i : Nat} {r : List IS} (h : semE M e ρ (fun d => isLst d fun ds => semB M r A (ρ.set i (.own (.lst ds)))) (fun x => A.xe x ρ)) : semB M (.new i e :: r) A ρ := h
theorem retO_1 {i : Nat} {r : List IS} {ds : List D} (hi : ρ[i]? = some (.own (.lst ds))) (h : A.ro ds) : semB M (.retO i :: r) A ρ := by
  show sSeq (semS M (.retO i)) (semB M r) A ρ
  simp only [sSeq, semS, sRetO, ownL, hi]
  exact h
theorem Is.ixO {i : Nat} {k : IE} {ds : List D} {z : Int} {d : D} (hi : ρ[i]? = some (.own (.lst ds))) (gk : Is M k ρ (.int z)) (h : L2.atI ds z = some d) : Is M (.ixO i k) ρ d := fun P E q => by
  simp only [semE, wIxO, ownL, hi]
  refine gk _ _ ?_
  simp only [isInt, h, hasI]
  exact q
end
end Tr

namespace Tr
open PySem PySem.Spec PyProof.Rows L2
/-! ### comprehensions of two clauses, with tests; pairs of whole numbers -/
theorem nest_all {α : Type} {g : WG} {ρ : List Slot} {body : TB} {mk : α → D} (F : α → List D) {P : List D → Prop} : ∀ (xs : List α) (acc : List D), (acc ++ xs.flatMap F).length ≤ 1000 →
    (∀ a ∈ xs, ∀ (acc : List D) (Q : List D → Prop), (acc ++ F a).length ≤ 1000 → Q (acc ++ F a) → g (mk a) ρ fun ρ2 => body ρ2 acc Q) → P (acc ++ xs.flatMap F) → nestL g ρ body (xs.map mk) acc P
  | [], acc, _, _, q => by
    have q : P (acc ++ []) := q
    rw [List.append_nil] at q
    exact q
  | a :: r, acc, hl, h, q => by
    rw [List.flatMap_cons, ← List.append_assoc] at hl q
    refine h a List.mem_cons_self acc _ (by rw [List.length_append] at hl; omega) ?_
    exact nest_all F r (acc ++ F a) hl (fun b hb => h b (List.mem_cons_of_mem _ hb)) q
theorem flat_one {α β : Type} (f : α → β) : ∀ xs : List α, xs.flatMap (fun a => [f a]) = xs.map f
  | [] => rfl
  | a :: r => by rw [List.flatMap_cons, List.map_cons, flat_one f r]; rfl
theorem nest_map {α : Type} {g : WG} {ρ : List Slot} {e : WE} {mk : α → D} (f : α → D) {P : List D → Prop} (xs : List α) (acc : List D) (hl : acc.length + xs.length ≤ 1000)
    (h : ∀ a ∈ xs, ∀ (Q : D → Prop), Q (f a) → g (mk a) ρ fun ρ2 => e ρ2 Q (fun _ => False)) (q : P (acc ++ xs.map f)) : nestL g ρ (eltL e) (xs.map mk) acc P := by
  have e1 : xs.flatMap (fun a => [f a]) = xs.map f := flat_one f xs
  refine nest_all (fun a => [f a]) xs acc (by rw [e1]; simp; omega) (fun a ha acc Q hn hq => ?_) (by rw [e1]; exact q)
  rw [List.length_append, List.length_singleton] at hn
  exact h a ha _ ⟨L2.small1000 (by omega), hq⟩
section
variable {M : Sm} {e e1 e2 n : IE} {ρ : List Slot} {a b c d k : Int} {A : EndsD}
theorem rg1_i {P : List D → Prop} {E : Exc → Prop} (g : Is M n ρ (.int k)) (hk : small62 k) (q : P ((rgI 0 k).map .int)) : semI M (.rg1 n) ρ P E := by
  simp only [semI, wRg1]
  refine g _ _ ?_
  rw [isInt_d, rgD_I]
  exact ⟨hk, q⟩
theorem rg2_i {P : List D → Prop} {E : Exc → Prop} (g1 : Is M e1 ρ (.int a)) (g2 : Is M e2 ρ (.int b)) (ha : small62 a) (hb : small62 b) (q : P ((rgI a b).map .int)) : semI M (.rg2 e1 e2) ρ P E := by
  simp only [semI, wRg2]
  refine g1 _ _ ?_
  rw [isInt_d]
  refine g2 _ _ ?_
  rw [isInt_d, rgD_I]
  exact ⟨ha, hb, q⟩
/-- [.. for i in range(k) for j in (a range)] -/
theorem Is.lc2 {β : Type} {own : List (Str × Nat)} {i j : Nat} {it : II} {lo hi : Int → Int} (f : Int → Int → β) (out : β → D) (gn : Is M n ρ (.int k)) (hk : 0 ≤ k ∧ k ≤ 1000) (ho : noOwn ρ (own.map (·.2)) = true)
    (hl : ((rgI 0 k).flatMap fun x => (rgI (lo x) (hi x)).map fun y => out (f x y)).length ≤ 1000)
    (h1 : ∀ x, 0 ≤ x → x < k → ∀ Q : List D → Prop, Q ((rgI (lo x) (hi x)).map .int) → semI M it ((wipeR ρ (own.map (·.2))).set i (.val (.int x))) Q (fun _ => False))
    (h2 : ∀ x y, 0 ≤ x → x < k → lo x ≤ y → y < hi x → Is M e ((wipeR ((wipeR ρ (own.map (·.2))).set i (.val (.int x))) [j]).set j (.val (.int y))) (out (f x y))) :
    Is M (.lc2 own (.nm i) (.rg1 n) (.nm j) it e) ρ (.lst ((rgI 0 k).flatMap fun x => (rgI (lo x) (hi x)).map fun y => out (f x y))) := fun P E q => by
  simp only [semE, wLc2]
  refine ⟨ho, ?_⟩
  refine rg1_i gn (by unfold small62; omega) ?_
  refine nest_all (fun x => (rgI (lo x) (hi x)).map fun y => out (f x y)) _ [] (by rw [List.nil_append]; exact hl) (fun x hx acc Q hn hq => semG_n ?_) (by rw [List.nil_append]; exact q)
  obtain ⟨x0, x1⟩ := mem_rgI hx
  unfold forB
  refine h1 x x0 x1 _ ?_
  refine nest_map (fun y => out (f x y)) _ acc (by rw [List.length_append, List.length_map] at hn; exact hn) (fun y hy Q hQ => semG_n ?_) hq
  obtain ⟨y0, y1⟩ := mem_rgI hy
  exact h2 x y x0 x1 y0 y1 _ _ hQ
/-- [.. for a, b in xs if ..] -/
theorem Is.lcF2 {α β : Type} {own : List (Str × Nat)} {i j : Nat} {s : IE} {t : IT} {m1 m2 : α → D} (keep : α → Bool) (f : α → β) (out : β → D) {xs : List α} (gs : Is M s ρ (.lst (xs.map fun a => .tup [m1 a, m2 a]))) (hl : xs.length ≤ 1000) (ho : noOwn ρ (own.map (·.2)) = true)
    (ht : ∀ a ∈ xs, IsT M t (((wipeR ρ (own.map (·.2))).set i (.val (m1 a))).set j (.val (m2 a))) (keep a)) (h : ∀ a ∈ xs, Is M e (((wipeR ρ (own.map (·.2))).set i (.val (m1 a))).set j (.val (m2 a))) (out (f a))) :
    Is M (.lc own (.tup [.nm i, .nm j]) (.lst s) [t] e) ρ (.lst ((xs.filter keep).map fun a => out (f a))) := fun P E q => by
  simp only [semE, wLc]
  refine ⟨ho, ?_⟩
  simp only [semI, wLstI]
  refine gs _ _ ?_
  simp only [isLst]
  refine lc_fil0 keep f out _ hl (fun a ha Q C h1 h2 => semG_2 ?_) ?_
  · show semT M t _ (fun b => if b = true then _ else _) _
    refine ht a ha _ _ ?_
    cases hk : keep a with
    | true => exact h a ha _ _ (h1 hk)
    | false => exact h2 hk
  · rw [List.map_map]
    exact q
theorem IsT.inD {neg : Bool} {x y : D} {z : Bool} {op : CmpOp} (hop : cmpD op = dIn neg) (g1 : Is M e1 ρ x) (g2 : Is M e2 ρ y) (h : ∀ (P : D → Prop) (E : Exc → Prop), P (.bl z) → dIn neg x y P E) : IsT M (.cmp op e1 e2) ρ z := fun Q E q => by
  simp only [semT, wTst, w2, hop]
  exact g1 _ _ (g2 _ _ (h _ _ q))
end
/-- a pair of whole numbers -/
def ppD (b : Int × Int) : D := .tup [.int b.1, .int b.2]
theorem toPs_pp : ∀ xs : List (Int × Int), toPs (xs.map ppD) = xs.map fun b => .tuple [.int b.1, .int b.2]
  | [] => rfl
  | x :: r => by rw [List.map_cons, toPs, toPs_pp r]; rfl
theorem lay_pp (xs : List (Int × Int)) : PyData.canLayAll0 (toPs (xs.map ppD)) = true := by
  rw [toPs_pp]
  induction xs with
  | nil => rfl
  | cons x r ih =>
    rw [List.map_cons, PyData.canLayAll0, ih]
    rfl
theorem depth_pp (xs : List (Int × Int)) : PyData.depthAll (toPs (xs.map ppD)) ≤ 3 := by
  rw [toPs_pp]
  induction xs with
  | nil => decide
  | cons x r ih =>
    rw [List.map_cons, PyData.depthAll]
    exact Nat.max_le.mpr ⟨by simp [PyData.depth, PyData.depthAll], ih⟩
theorem eqvAll_pp (xs : List (Int × Int)) : PyData.eqvAll (toPs (xs.map ppD)) (toPs (xs.map ppD)) = true := by
  rw [toPs_pp]
  induction xs with
  | nil => rfl
  | cons x r ih =>
    rw [List.map_cons, PyData.eqvAll, ih]
    simp [PyData.eqv, PyData.eqvAll]
theorem shaped_pp (xs : List (Int × Int)) : SeqAt.shaped (toP (.lst (xs.map ppD))) = true := by
  unfold SeqAt.shaped
  rw [Bool.and_eq_true]
  refine ⟨?_, decide_eq_true ?_⟩
  · simpa [toP, PyData.canLay0] using lay_pp xs
  · have := depth_pp xs
    simp only [toP, PyData.depth]
    omega
theorem eqv_pp (xs : List (Int × Int)) : PyData.eqv (toP (.lst (xs.map ppD))) (toP (.lst (xs.map ppD))) = true := by
  simp only [toP, PyData.eqv]
  exact eqvAll_pp xs
theorem dNe_pp {xs : List (Int × Int)} {P : D → Prop} {E : Exc → Prop} (q : P (.bl false)) : dNe (.lst (xs.map ppD)) (.lst (xs.map ppD)) P E := by
  show dEqG true _ _ P E
  refine ⟨shaped_pp xs, shaped_pp xs, ?_⟩
  rw [eqv_pp]
  exact q
theorem dEq_pp {xs : List (Int × Int)} {P : D → Prop} {E : Exc → Prop} (q : P (.bl true)) : dEq (.lst (xs.map ppD)) (.lst (xs.map ppD)) P E := by
  show dEqG false _ _ P E
  refine ⟨shaped_pp xs, shaped_pp xs, ?_⟩
  rw [eqv_pp]
  exact q
/-- is the pair among them -/
def amg (b : Int × Int) (bs : List (Int × Int)) : Bool := (toPs (bs.map ppD)).any fun y => PyData.eqv y (toP (ppD b))
theorem dIn_pp {neg : Bool} {b : Int × Int} {bs : List (Int × Int)} {P : D → Prop} {E : Exc → Prop} (q : P (.bl (xor neg (amg b bs)))) : dIn neg (ppD b) (.tup (bs.map ppD)) P E :=
  ⟨by rfl, by show PyData.depth (.tuple [.int b.1, .int b.2]) ≤ 20; simp [PyData.depth, PyData.depthAll], lay_pp bs, q⟩
end Tr

namespace Tr
/-! ### plain arithmetic of a part's middle and halves -/
def mid (f l n d : Int) : Int := f + (l - f) * n / d
def dup (n d : Int) : Int := -(-n / d)
def hlf (f l d : Int) : Int := if f = l then 0 else dup (if l - f < 0 then -(l - f) else l - f) d + 1
theorem mid_floor {f l n d : Int} (hd : 0 < d) : mid f l n d * d ≤ f * d + (l - f) * n ∧ f * d + (l - f) * n < (mid f l n d + 1) * d := by
  have e := Int.mul_ediv_add_emod ((l - f) * n) d
  have h0 := Int.emod_nonneg ((l - f) * n) (show d ≠ 0 by omega)
  have h1 := Int.emod_lt_of_pos ((l - f) * n) hd
  unfold mid
  generalize (l - f) * n / d = q at e ⊢
  generalize (l - f) * n % d = r at e h0 h1
  rw [← e]
  constructor <;> grind
theorem dup_eq {n d : Int} (hd : 0 < d) : dup n d = (n + d - 1) / d := by
  unfold dup
  have e1 := Int.mul_ediv_add_emod (-n) d
  have a0 := Int.emod_nonneg (-n) (show d ≠ 0 by omega)
  have a1 := Int.emod_lt_of_pos (-n) hd
  refine ((Int.ediv_eq_iff_of_pos hd).mpr ?_).symm
  generalize -n / d = q at e1 ⊢
  generalize -n % d = r at e1 a0 a1
  constructor <;> grind
theorem dup_ge {n d : Int} (hd : 0 < d) : n ≤ dup n d * d := by
  unfold dup
  have e1 := Int.mul_ediv_add_emod (-n) d
  have a0 := Int.emod_nonneg (-n) (show d ≠ 0 by omega)
  generalize -n / d = q at e1 ⊢
  generalize -n % d = r at e1 a0
  grind
/-- the meant value is within the half of the middle -/
theorem half_ok {f l at_ D u o : Int} (hD : 0 < D) (hu : 0 < u) (ho : 0 ≤ o ∧ o ≤ u) (m : Int) (hm : m = f * u * D + (l - f) * (at_ * u + o)) :
    (if m - mid f l (2 * at_ + 1) (2 * D) * u * D < 0 then -(m - mid f l (2 * at_ + 1) (2 * D) * u * D) else m - mid f l (2 * at_ + 1) (2 * D) * u * D) ≤ hlf f l (2 * D) * u * D := by
  subst hm
  by_cases hz : f = l
  · subst hz
    unfold hlf mid
    simp
  have e := Int.mul_ediv_add_emod ((l - f) * (2 * at_ + 1)) (2 * D)
  have h0 := Int.emod_nonneg ((l - f) * (2 * at_ + 1)) (show 2 * D ≠ 0 by omega)
  have h1 := Int.emod_lt_of_pos ((l - f) * (2 * at_ + 1)) (show 0 < 2 * D by omega)
  unfold hlf mid
  rw [if_neg hz]
  generalize hA : (if l - f < 0 then -(l - f) else l - f) = A
  have hA1 : l - f ≤ A ∧ -(l - f) ≤ A ∧ 0 ≤ A := by split at hA <;> omega
  have hg := dup_ge (n := A) (show 0 < 2 * D by omega)
  generalize dup A (2 * D) = g at hg ⊢
  generalize (l - f) * (2 * at_ + 1) / (2 * D) = q at e ⊢
  generalize (l - f) * (2 * at_ + 1) % (2 * D) = r at e h0 h1
  generalize hF : l - f = F at *
  have k1 : 2 * (f * u * D + F * (at_ * u + o) - (f + q) * u * D) = u * r + F * (2 * o - u) := by grind
  have b1 : F * (2 * o - u) ≤ A * u := by
    have c1 : 0 ≤ A - F := by omega
    have c2 : 0 ≤ A + F := by omega
    have c3 : 0 ≤ 2 * u - 2 * o := by omega
    have m1 := Int.mul_nonneg c1 ho.1
    have m2 := Int.mul_nonneg c2 (show 0 ≤ u - o by omega)
    have m3 := Int.mul_nonneg c1 (show 0 ≤ u - o by omega)
    have m4 := Int.mul_nonneg c2 ho.1
    grind
  have b2 : -(A * u) ≤ F * (2 * o - u) := by
    have c1 : 0 ≤ A - F := by omega
    have c2 : 0 ≤ A + F := by omega
    have m1 := Int.mul_nonneg c1 ho.1
    have m2 := Int.mul_nonneg c2 (show 0 ≤ u - o by omega)
    have m3 := Int.mul_nonneg c1 (show 0 ≤ u - o by omega)
    have m4 := Int.mul_nonneg c2 ho.1
    grind
  have b3 : 0 ≤ u * r := Int.mul_nonneg (by omega) h0
  have b4 : u * r ≤ u * (2 * D) := Int.mul_le_mul_of_nonneg_left (by omega) (by omega)
  have b5 : A * u ≤ g * (2 * D) * u := Int.mul_le_mul_of_nonneg_right hg (by omega)
  have k2 : 2 * ((g + 1) * u * D) = g * (2 * D) * u + u * (2 * D) := by grind
  have b6 : 0 ≤ u * (2 * D) := Int.mul_nonneg (by omega) (by omega)
  split <;> omega
theorem slack_ok {f l n W : Int} (hW : 0 < W) : (if f * W + (l - f) * n - mid f l n W * W < 0 then -(f * W + (l - f) * n - mid f l n W * W) else f * W + (l - f) * n - mid f l n W * W) ≤ (if f = l then 0 else 1) * W := by
  obtain ⟨h1, h2⟩ := mid_floor (f := f) (l := l) (n := n) hW
  by_cases hz : f = l
  · subst hz
    unfold mid
    simp
  · rw [if_neg hz]
    have : (mid f l n W + 1) * W = mid f l n W * W + W := by grind
    split <;> omega
end Tr

namespace Tr
open PySem PySem.Spec PyProof.Rows L2
theorem for_fold {α β : Type} {g : WG} {b : WS} {A : EndsD} {mk : α → D} (stp : β → α → β) (I : β → List Slot → Prop) : ∀ (xs : List α) (s : β) {ρ : List Slot}, I s ρ →
    (∀ a ∈ xs, ∀ (s : β) (ρ : List Slot) (N : List Slot → Prop), I s ρ → (∀ ρ', I (stp s a) ρ' → N ρ') → g (mk a) ρ fun ρ1 => b { A with nx := N, ct := N, bk := A.nx } ρ1) →
    (∀ ρ, I (xs.foldl stp s) ρ → A.nx ρ) → forL g b (xs.map mk) A ρ
  | [], s, ρ, h0, hs, he => he ρ h0
  | a :: r, s, ρ, h0, hs, he => hs a List.mem_cons_self s ρ _ h0 fun ρ' h' => for_fold stp I r (stp s a) h' (fun x hx => hs x (List.mem_cons_of_mem _ hx)) he
theorem zipD4 {α β γ δ : Type} {a : α → D} {b : β → D} {c : γ → D} {d : δ → D} (xs : List α) (ys : List β) (zs : List γ) (ws : List δ) : zipD [xs.map a, ys.map b, zs.map c, ws.map d] = (xs.zip (ys.zip (zs.zip ws))).map fun p => .tup [a p.1, b p.2.1, c p.2.2.1, d p.2.2.2] := by
  refine List.ext_getElem (by simp [zipD, minL]) fun i h1 h2 => ?_
  have hx : i < xs.length := by simp at h2; omega
  have hy : i < ys.length := by simp at h2; omega
  have hz : i < zs.length := by simp at h2; omega
  have hw : i < ws.length := by simp at h2; omega
  simp [zipD, hx, hy, hz, hw, List.getD_eq_getElem?_getD]
theorem seqDs4 {d e f g : D} {xs ys zs ws : List D} (h : seqD d = some xs) (k : seqD e = some ys) (l : seqD f = some zs) (m : seqD g = some ws) : seqDs [d, e, f, g] = some [xs, ys, zs, ws] := by simp [seqDs, h, k, l, m]
section
variable {M : Sm} {g : IG} {e s1 s2 s3 s4 : IE} {b : List IS} {A : EndsD} {ρ : List Slot} {d1 d2 d3 d4 : D}
theorem semG_4 {i j k l : Nat} {a b c d : D} {P : List Slot → Prop} (h : P ((((ρ.set i (.val a)).set j (.val b)).set k (.val c)).set l (.val d))) : semG (.tup [.nm i, .nm j, .nm k, .nm l]) (.tup [a, b, c, d]) ρ P := by
  simp only [semG, gT, semGs, gsCons, gsNil, gN]
  first | exact h | exact ⟨by decide, h⟩ | simpa using h
theorem Is.lcZ3 {α β γ δ : Type} {own : List (Str × Nat)} {i j k : Nat} {m1 : α → D} {m2 : γ → D} {m3 : δ → D} (f : α → γ → δ → β) (out : β → D) {xs : List α} {ys : List γ} {zs : List δ} (g1 : Is M s1 ρ d1) (g2 : Is M s2 ρ d2) (g3 : Is M s3 ρ d3)
    (k1 : seqD d1 = some (xs.map m1)) (k2 : seqD d2 = some (ys.map m2)) (k3 : seqD d3 = some (zs.map m3)) (hl : xs.length ≤ 1000) (ho : noOwn ρ (own.map (·.2)) = true)
    (h : ∀ p ∈ xs.zip (ys.zip zs), Is M e ((((wipeR ρ (own.map (·.2))).set i (.val (m1 p.1))).set j (.val (m2 p.2.1))).set k (.val (m3 p.2.2))) (out (f p.1 p.2.1 p.2.2))) : Is M (.lc own (.tup [.nm i, .nm j, .nm k]) (.zip [s1, s2, s3]) [] e) ρ (.lst ((xs.zip (ys.zip zs)).map fun a => out (f a.1 a.2.1 a.2.2))) := fun P E q => by
  simp only [semE, wLc]
  refine ⟨ho, ?_⟩
  simp only [semI, wZipN]
  refine (IsA.cons g1 (IsA.cons g2 (IsA.cons g3 IsA.nil))) _ _ ⟨rfl, ?_⟩
  rw [seqDs3 k1 k2 k3, hasI_s, zipD3]
  refine lc_map (fun a : α × γ × δ => f a.1 a.2.1 a.2.2) out (mk := fun a => .tup [m1 a.1, m2 a.2.1, m3 a.2.2]) _ (by rw [List.length_zip]; omega) (fun a ha Q hQ => semG_3 (h a ha _ _ hQ)) ?_
  rw [List.map_map]
  exact q
theorem sfor_zip4 {α β γ δ : Type} {m1 : α → D} {m2 : β → D} {m3 : γ → D} {m4 : δ → D} {xs : List α} {ys : List β} {zs : List γ} {ws : List δ} (g1 : Is M s1 ρ d1) (g2 : Is M s2 ρ d2) (g3 : Is M s3 ρ d3) (g4 : Is M s4 ρ d4) (k1 : seqD d1 = some (xs.map m1)) (k2 : seqD d2 = some (ys.map m2)) (k3 : seqD d3 = some (zs.map m3)) (k4 : seqD d4 = some (ws.map m4))
    (h : forL (semG g) (semB M b) ((xs.zip (ys.zip (zs.zip ws))).map fun p => .tup [m1 p.1, m2 p.2.1, m3 p.2.2.1, m4 p.2.2.2]) A ρ) : semS M (.for g (.zip [s1, s2, s3, s4]) b) A ρ := by
  simp only [semS, sFor, semI, wZipN]
  refine (IsA.cons g1 (IsA.cons g2 (IsA.cons g3 (IsA.cons g4 IsA.nil)))) _ _ ⟨rfl, ?_⟩
  rw [seqDs4 k1 k2 k3 k4, hasI_s, zipD4]
  exact h
theorem srt_is {i : Nat} {x y : Str} {ps : List (Int × Int)} {z : Int} {P : D → Prop} {E : Exc → Prop} (ge : Is M e ρ (.lst (ps.map pairD))) (hz : ρ[i]? = some (.val (.int z))) (hb : ∀ p ∈ ps, CDivW z p.2 ∧ MulOk p.1 (z / p.2))
    (q : P (.lst ((ps.mergeSort fun p q => decide (keyI z p ≤ keyI z q)).map pairD))) : semE M (.srt e i x y) ρ P E := by
  simp only [semE, wSrt]
  exact ge _ _ ⟨ps, z, rfl, hz, hb, q⟩
end
end Tr

namespace Tr
open PySem PySem.Spec PyProof.Rows L2
/-! ### expressions that are not settled: read from the left -/
section
variable {M : Sm} {e e1 e2 e3 : IE} {es : List IE} {ρ : List Slot} {P : D → Prop} {E : Exc → Prop} {A : EndsD} {a b : Int} {x y : Str} {d : D}
theorem bin_is {op : Operator} (h : semE M e1 ρ (fun u => semE M e2 ρ (fun v => binD op u v P E) E) E) : semE M (.bin op e1 e2) ρ P E := by
  simp only [semE, w2]; exact h
theorem cmp_is {op : CmpOp} (h : semE M e1 ρ (fun u => semE M e2 ρ (fun v => cmpD op u v P E) E) E) : semE M (.cmp op e1 e2) ρ P E := by
  simp only [semE, w2]; exact h
theorem consA {Q : List D → Prop} (h : semE M e ρ (fun u => semA M es ρ (fun us => Q (u :: us)) E) E) : semA M (e :: es) ρ Q E := by
  simp only [semA, wCons]; exact h
theorem nilA {Q : List D → Prop} (h : Q []) : semA M [] ρ Q E := by
  simp only [semA, wNil]; exact h
theorem blt_a {f : BI} (h : semA M es ρ (fun us => biD f us P E) E) : semE M (.blt f es) ρ P E := by
  simp only [semE, wN]; exact h
theorem call_a {f : Nat} (h : semA M es ρ (fun us => M.sem f us P E) E) : semE M (.call f es) ρ P E := by
  simp only [semE, wN]; exact h
theorem call0_is {f : Nat} (h : M.sem f [] P E) : semE M (.call0 f) ρ P E := by
  simp only [semE, wN, wNil]; exact h
theorem Is.call0 {f : Nat} {v : D} (q : ∀ (P : D → Prop) (E : Exc → Prop), P v → M.sem f [] P E) : Is M (.call0 f) ρ v := fun P E p => call0_is (q P E p)
theorem tup_a (h : semA M es ρ (fun ds => ds.length ≤ sizeLine ∧ P (.tup ds)) E) : semE M (.tup es) ρ P E := by
  simp only [semE, wTup]; exact h
theorem lst_a (h : semA M es ρ (fun ds => ds.length ≤ sizeLine ∧ P (.lst ds)) E) : semE M (.lst es) ρ P E := by
  simp only [semE, wLst]; exact h
theorem cmpT_is {op : CmpOp} {Q : Bool → Prop} (h : semE M e1 ρ (fun u => semE M e2 ρ (fun v => cmpD op u v (fun d => isTru d Q) E) E) E) : semT M (.cmp op e1 e2) ρ Q E := by
  simp only [semT, wTst, w2]; exact h
theorem iff_any {t : IT} {b1 b2 r : List IS} (h : semT M t ρ (fun k => if k = true then semB M b1 { A with nx := semB M r A } ρ else semB M b2 { A with nx := semB M r A } ρ) fun x => A.xe x ρ) : semB M (.iff t b1 b2 :: r) A ρ := by
  show sSeq (semS M (.iff t b1 b2)) (semB M r) A ρ
  simp only [sSeq, semS, sIf]
  exact h
/-! ### digits -/
theorem digS_1 {i : Nat} {r : List IS} (hi : ρ[i]? = some (.val (.cell 2))) (h : semE M e ρ (fun d => semE M e1 ρ (fun k => k = .int 0 ∧ isInt d fun z => 0 ≤ z ∧ semB M r A ρ) (fun x => A.xe x ρ)) (fun x => A.xe x ρ)) : semB M (.digS i e1 e :: r) A ρ := by
  show sSeq (semS M (.digS i e1 e)) (semB M r) A ρ
  simp only [sSeq, semS, sDig]
  exact ⟨hi, h⟩
theorem dig_r (g : semE M e ρ (fun d => isInt d fun z => 0 ≤ z ∧ P (.cell 2)) E) : semE M (.dig e) ρ P E := by
  simp only [semE, wDig]; exact g
theorem dg_read (h : ρ[0]? = some (.val (.cell 2))) (q : ∀ z : Int, 0 ≤ z → P (.int z)) : semE M (.blt .int [.ix (.var 0) (.cst (.int 0))]) ρ P E := by
  refine blt_a (consA ?_)
  simp only [semE, w2, wC, wVar, h]
  show dIx (.cell 2) (.int 0) _ E
  refine ⟨rfl, rfl, fun z hz => nilA ?_⟩
  show bInt [.int z] P E
  rw [bInt_i]
  exact q z hz
/-! ### texts -/
theorem Is.ixS {k : Nat} (g1 : Is M e1 ρ (.str x)) (g2 : Is M e2 ρ (.int a)) (hl : x.length ≤ 1000) (h : L2.atI x.cps.toList a = some k) : Is M (.ix e1 e2) ρ (.str ⟨#[k]⟩) := fun P E q => by
  simp only [semE, w2]
  refine g1 _ _ (g2 _ _ ?_)
  show x.length ≤ sizeLine ∧ _
  refine ⟨Nat.le_trans hl (by decide), ?_⟩
  rw [h]
  exact q
theorem Is.lenS (g : Is M e ρ (.str x)) (h : x.length ≤ 1000) : Is M (.blt .len [e]) ρ (.int x.length) := fun P E q => blt_is (IsA.cons g IsA.nil) ⟨Nat.le_trans h (by decide), q⟩
theorem Is.catS (g1 : Is M e1 ρ (.str x)) (g2 : Is M e2 ρ (.str y)) (h : x.length + y.length ≤ 1000) : Is M (.bin .Add e1 e2) ρ (.str (x ++ y)) := fun P E q => by
  simp only [semE, w2, binD]
  exact g1 _ _ (g2 _ _ ⟨Nat.le_trans h (by decide), q⟩)
theorem Is.toS (g : Is M e ρ (.int a)) (h : -(2 ^ 100) < a ∧ a < 2 ^ 100) : Is M (.blt .str [e]) ρ (.str (Str.ofString (toString a))) := fun P E q => blt_is (IsA.cons g IsA.nil) ⟨by
  have : a.natAbs.log2 < 100 ∨ a.natAbs = 0 := by
    rcases Nat.eq_zero_or_pos a.natAbs with z | z
    · exact .inr z
    · exact .inl ((Nat.log2_lt (by omega)).mpr (by omega))
  rcases this with z | z
  · omega
  · rw [z]; decide, q⟩
theorem Is.ofS {n : Int} (g : Is M e ρ (.str x)) (h : PySem.intText? x = some n) (hl : x.length ≤ 640) : Is M (.blt .int [e]) ρ (.int n) := fun P E q => blt_is (IsA.cons g IsA.nil) ⟨n, h, hl, q⟩
theorem Is.slToS (g1 : Is M e1 ρ (.str x)) (g2 : Is M e2 ρ (.int a)) (hl : x.length ≤ 1000) : Is M (.slTo e1 e2) ρ (.str (cutS x none (some a))) := fun P E q => by
  simp only [semE, w2]
  exact g1 _ _ (g2 _ _ ⟨Nat.le_trans hl (by decide), q⟩)
theorem Is.slFrS (g1 : Is M e1 ρ (.str x)) (g2 : Is M e2 ρ (.int a)) (hl : x.length ≤ 1000) : Is M (.slFr e1 e2) ρ (.str (cutS x (some a) none)) := fun P E q => by
  simp only [semE, w2]
  exact g1 _ _ (g2 _ _ ⟨Nat.le_trans hl (by decide), q⟩)
theorem Is.inS {k : Nat} (g1 : Is M e1 ρ (.str ⟨#[k]⟩)) (g2 : Is M e2 ρ (.str x)) : Is M (.cmp .In e1 e2) ρ (.bl (decide (k ∈ x.cps.toList))) := fun P E q => by
  simp only [semE, w2, cmpD]
  exact g1 _ _ (g2 _ _ ⟨k, rfl, by rw [Bool.false_xor]; exact q⟩)
theorem IsT.inS {k : Nat} (g1 : Is M e1 ρ (.str ⟨#[k]⟩)) (g2 : Is M e2 ρ (.str x)) : IsT M (.cmp .In e1 e2) ρ (decide (k ∈ x.cps.toList)) := fun Q E q => by
  simp only [semT, wTst, w2, cmpD]
  exact g1 _ _ (g2 _ _ ⟨k, rfl, by rw [Bool.false_xor]; exact q⟩)
theorem IsT.notInS {k : Nat} (g1 : Is M e1 ρ (.str ⟨#[k]⟩)) (g2 : Is M e2 ρ (.str x)) : IsT M (.cmp .NotIn e1 e2) ρ (!decide (k ∈ x.cps.toList)) := fun Q E q => by
  simp only [semT, wTst, w2, cmpD]
  exact g1 _ _ (g2 _ _ ⟨k, rfl, by rw [Bool.true_xor]; exact q⟩)
/-- a text among texts -/
def amidS (x : Str) (ss : List Str) : Bool := (toPs (ss.map D.str)).any fun y => PyData.eqv y (toP (.str x))
/-- a text of at most n signs -/
def SOk (n : Nat) (x : Str) : Prop := x.length ≤ n ∧ ∀ k ∈ x.cps.toList, k < 1114112
theorem SOk.str {n : Nat} (h : SOk n x) : PyData.strOk x = true := by
  unfold PyData.strOk
  rw [Array.all_eq_true]
  intro i hi
  exact decide_eq_true (h.2 _ (by simp))
theorem lay_strs : ∀ ss : List Str, (ss.all fun s => PyData.strOk s) = true → PyData.canLayAll0 (toPs (ss.map D.str)) = true
  | [], _ => by simp [toPs, PyData.canLayAll0]
  | s :: ss, h => by
    rw [List.all_cons, Bool.and_eq_true] at h
    have := lay_strs ss h.2
    simp [toPs, toP, PyData.canLayAll0, PyData.canLay0, h.1]
    simpa using this
theorem IsT.amidL {ss : List Str} (hx : PyData.strOk x = true) (hs : (ss.all fun s => PyData.strOk s) = true) (g1 : Is M e1 ρ (.str x)) (g2 : Is M e2 ρ (.lst (ss.map D.str))) : IsT M (.cmp .In e1 e2) ρ (amidS x ss) := fun Q E q => by
  simp only [semT, wTst, w2, cmpD]
  exact g1 _ _ (g2 _ _ ⟨by simp [toP, PyData.canLay0, hx], by simp [toP, PyData.depth], lay_strs ss hs, by rw [Bool.false_xor]; exact q⟩)
theorem IsT.amidT {ss : List Str} (hx : PyData.strOk x = true) (hs : (ss.all fun s => PyData.strOk s) = true) (g1 : Is M e1 ρ (.str x)) (g2 : Is M e2 ρ (.tup (ss.map D.str))) : IsT M (.cmp .In e1 e2) ρ (amidS x ss) := fun Q E q => by
  simp only [semT, wTst, w2, cmpD]
  exact g1 _ _ (g2 _ _ ⟨by simp [toP, PyData.canLay0, hx], by simp [toP, PyData.depth], lay_strs ss hs, by rw [Bool.false_xor]; exact q⟩)
/-- for c in x -/
theorem sfor_str {g : IG} {b : List IS} (he : Is M e ρ (.str x)) (h : forL (semG g) (semB M b) (x.cps.toList.map fun k => D.str ⟨#[k]⟩) A ρ) : semS M (.for g (.str e) b) A ρ := by
  simp only [semS, sFor, semI, wStrI]
  exact he _ _ h
/-- [.. for c in x] -/
theorem Is.lcS {β : Type} {own : List (Str × Nat)} {i : Nat} {e s : IE} (f : Nat → β) (out : β → D) (gs : Is M s ρ (.str x)) (hl : x.length ≤ 1000) (ho : noOwn ρ (own.map (·.2)) = true)
    (h : ∀ k ∈ x.cps.toList, Is M e ((wipeR ρ (own.map (·.2))).set i (.val (.str ⟨#[k]⟩))) (out (f k))) : Is M (.lc own (.nm i) (.str s) [] e) ρ (.lst (x.cps.toList.map fun k => out (f k))) := fun P E q => by
  simp only [semE, wLc]
  refine ⟨ho, ?_⟩
  simp only [semI, wStrI]
  refine gs _ _ ?_
  show Tr.lcL _ _ _ _ (chD x) [] _
  unfold chD
  refine lc_map (mk := fun k : Nat => D.str ⟨#[k]⟩) f out _ (by
    have : x.cps.toList.length = x.length := rfl
    omega) (fun k hk Q hQ => h k hk _ _ hQ) ?_
  rw [List.map_map]
  exact q
theorem IsT.neSS (g1 : Is M e1 ρ (.str x)) (g2 : Is M e2 ρ (.str y)) : IsT M (.cmp .NotEq e1 e2) ρ (!decide (x = y)) := IsT.neS g1 g2
end
theorem cutS_le {x : Str} {lo hi : Option Int} : (cutS x lo hi).length ≤ x.length := by
  show (List.toArray _).size ≤ x.cps.size
  rw [List.size_toArray, List.length_take, List.length_drop, Array.length_toList]
  omega
theorem SOk.cut {n : Nat} {x : Str} {lo hi : Option Int} (h : SOk n x) : SOk n (cutS x lo hi) := ⟨Nat.le_trans cutS_le h.1, fun k hk => h.2 k (by
  have : k ∈ (List.take (HT.sIx x.length x.length hi - HT.sIx x.length 0 lo) (List.drop (HT.sIx x.length 0 lo) x.cps.toList)) := by simpa [cutS] using hk
  exact List.mem_of_mem_drop (List.mem_of_mem_take this))⟩
theorem catS_len (x y : Str) : (x ++ y).length = x.length + y.length := by
  show (x.cps ++ y.cps).size = _
  rw [Array.size_append]; rfl
theorem SOk.cat {m n : Nat} {x y : Str} (h : SOk m x) (k : SOk n y) : SOk (m + n) (x ++ y) := ⟨by rw [catS_len]; have := h.1; have := k.1; omega, fun j hj => by
  have : j ∈ (x.cps ++ y.cps).toList := hj
  rw [Array.toList_append] at this
  rcases List.mem_append.mp this with z | z
  · exact h.2 j z
  · exact k.2 j z⟩
theorem SOk.mono {m n : Nat} {x : Str} (h : SOk m x) (k : m ≤ n) : SOk n x := ⟨Nat.le_trans h.1 k, h.2⟩
theorem SOk.one {k : Nat} (h : k < 1114112) : SOk 1 ⟨#[k]⟩ := ⟨Nat.le_refl _, fun j hj => by
  have : j = k := by simpa using hj
  omega⟩
/-- a text's length and signs, for texts that are known -/
def okS (n : Nat) (x : Str) : Bool := decide (x.length ≤ n) && x.cps.toList.all fun k => decide (k < 1114112)
theorem SOk.of {n : Nat} {x : Str} (h : okS n x = true) : SOk n x := by
  unfold okS at h
  rw [Bool.and_eq_true, List.all_eq_true] at h
  exact ⟨of_decide_eq_true h.1, fun k hk => of_decide_eq_true (h.2 k hk)⟩
/-- a sign of a text by number -/
theorem atI_sign {x : Str} {i : Int} (h0 : 0 ≤ i) (h : i < x.length) : ∃ k, k ∈ x.cps.toList ∧ L2.atI x.cps.toList i = some k := by
  have hl : i.toNat < x.cps.toList.length := by
    have : x.cps.toList.length = x.length := rfl
    omega
  refine ⟨x.cps.toList[i.toNat], List.getElem_mem _, ?_⟩
  have := L2.atI_nat (xs := x.cps.toList) (j := i.toNat) (List.getElem?_eq_getElem hl)
  rwa [Int.toNat_of_nonneg h0] at this
end Tr

namespace Tr
open PySem PySem.Spec PyProof.Rows L2
/-! ### plain data: compared, among others, as keys -/
structure PL (n : Nat) (d : D) : Prop where
  lay : (toP d).canLay0 = true
  dep : (toP d).depth ≤ n
theorem PL.mono {m n : Nat} {d : D} (h : PL m d) (k : m ≤ n) : PL n d := ⟨h.lay, Nat.le_trans h.dep k⟩
theorem PL.non {n : Nat} : PL n .non := ⟨by simp [toP, PyData.canLay0], by simp [toP, PyData.depth]⟩
theorem PL.int {n : Nat} {i : Int} : PL n (.int i) := ⟨by simp [toP, PyData.canLay0], by simp [toP, PyData.depth]⟩
theorem PL.bl {n : Nat} {b : Bool} : PL n (.bl b) := ⟨by simp [toP, PyData.canLay0], by simp [toP, PyData.depth]⟩
theorem PL.str {n : Nat} {x : Str} (h : PyData.strOk x = true) : PL n (.str x) := ⟨by simp [toP, PyData.canLay0, h], by simp [toP, PyData.depth]⟩
theorem PL.all {n : Nat} : ∀ {ds : List D}, (∀ d ∈ ds, PL n d) → PyData.canLayAll0 (toPs ds) = true ∧ PyData.depthAll (toPs ds) ≤ n
  | [], _ => ⟨by simp [toPs, PyData.canLayAll0], by simp [toPs, PyData.depthAll]⟩
  | d :: ds, h => by
    have h1 := h d List.mem_cons_self
    have h2 := PL.all (ds := ds) fun e he => h e (List.mem_cons_of_mem _ he)
    refine ⟨by simp [toPs, PyData.canLayAll0, h1.lay, h2.1], ?_⟩
    have := h1.dep
    simp only [toPs, PyData.depthAll]
    omega
theorem PL.tup {n : Nat} {ds : List D} (h : ∀ d ∈ ds, PL n d) : PL (n + 1) (.tup ds) := ⟨by simp [toP, PyData.canLay0, (PL.all h).1], by simp only [toP, PyData.depth]; have := (PL.all h).2; omega⟩
theorem PL.lst {n : Nat} {ds : List D} (h : ∀ d ∈ ds, PL n d) : PL (n + 1) (.lst ds) := ⟨by simp [toP, PyData.canLay0, (PL.all h).1], by simp only [toP, PyData.depth]; have := (PL.all h).2; omega⟩
theorem dNe_self {d : D} {P : D → Prop} {E : Exc → Prop} (h : PL 60 d) (q : P (.bl false)) : dNe d d P E := by
  have g : dEqG true d d P E := by
    have s : SeqAt.shaped (toP d) = true := by
      unfold SeqAt.shaped
      rw [h.lay, decide_eq_true (by have := h.dep; omega)]; rfl
    refine ⟨s, s, ?_⟩
    rw [SeqAt.eqv_refl _ h.lay]
    exact q
  cases d with
  | int i => show P _; simpa using q
  | bl i => show P _; simpa using q
  | str i => show P _; simpa using q
  | _ => exact g
section
variable {M : Sm} {e e1 e2 : IE} {ρ : List Slot} {d x : D} {A : EndsD} {a b : Int} {s t : Str}
theorem IsT.neSame (g1 : Is M e1 ρ d) (g2 : Is M e2 ρ d) (h : PL 60 d) : IsT M (.cmp .NotEq e1 e2) ρ false := IsT.neD g1 g2 fun P E q => dNe_self h q
/-! ### keys -/
mutual
theorem eqv_key : ∀ (x y : D) (k l : NestedKey), nkey x = some k → nkey y = some l → PyData.eqv (toP x) (toP y) = decide (k = l)
  | .non, .non, _, _, e, f => by cases e; cases f; simp [toP, PyData.eqv]
  | .non, .bl _, _, _, e, f => by cases e; cases f; simp [toP, PyData.eqv]
  | .non, .int _, _, _, e, f => by cases e; cases f; simp [toP, PyData.eqv]
  | .non, .str _, _, _, e, f => by cases e; cases f; simp [toP, PyData.eqv]
  | .bl _, .non, _, _, e, f => by cases e; cases f; simp [toP, PyData.eqv]
  | .bl a, .bl b, _, _, e, f => by cases e; cases f; cases a <;> cases b <;> simp [toP, PyData.eqv]
  | .bl a, .int b, _, _, e, f => by
    cases e; cases f
    simp only [toP, PyData.eqv]
    rw [Bool.beq_eq_decide_eq]
    simp
  | .bl _, .str _, _, _, e, f => by cases e; cases f; simp [toP, PyData.eqv]
  | .int _, .non, _, _, e, f => by cases e; cases f; simp [toP, PyData.eqv]
  | .int a, .bl b, _, _, e, f => by
    cases e; cases f
    simp only [toP, PyData.eqv]
    rw [Bool.beq_eq_decide_eq]
    simp
  | .int a, .int b, _, _, e, f => by
    cases e; cases f
    simp only [toP, PyData.eqv]
    rw [Bool.beq_eq_decide_eq]
    simp
  | .int _, .str _, _, _, e, f => by cases e; cases f; simp [toP, PyData.eqv]
  | .str _, .non, _, _, e, f => by cases e; cases f; simp [toP, PyData.eqv]
  | .str _, .bl _, _, _, e, f => by cases e; cases f; simp [toP, PyData.eqv]
  | .str _, .int _, _, _, e, f => by cases e; cases f; simp [toP, PyData.eqv]
  | .str a, .str b, _, _, e, f => by
    cases e; cases f
    simp only [toP, PyData.eqv]
    rw [Bool.beq_eq_decide_eq]
    simp
  | .tup xs, .tup ys, k, l, e, f => by
    have e : (nkeys xs).map NestedKey.tup = some k := e
    have f : (nkeys ys).map NestedKey.tup = some l := f
    cases z : nkeys xs with
    | none => rw [z] at e; cases e
    | some ks =>
      cases w : nkeys ys with
      | none => rw [w] at f; cases f
      | some ls =>
        rw [z] at e
        rw [w] at f
        cases e; cases f
        simp only [toP, PyData.eqv]
        rw [eqv_keys xs ys ks ls z w]
        simp
  | .tup xs, .non, k, l, e, f | .tup xs, .bl _, k, l, e, f | .tup xs, .int _, k, l, e, f | .tup xs, .str _, k, l, e, f => by
    have e : (nkeys xs).map NestedKey.tup = some k := e
    cases z : nkeys xs with
    | none => rw [z] at e; cases e
    | some ks => rw [z] at e; cases e; cases f; simp [toP, PyData.eqv]
  | .non, .tup xs, k, l, f, e | .bl _, .tup xs, k, l, f, e | .int _, .tup xs, k, l, f, e | .str _, .tup xs, k, l, f, e => by
    have e : (nkeys xs).map NestedKey.tup = some l := e
    cases z : nkeys xs with
    | none => rw [z] at e; cases e
    | some ks => rw [z] at e; cases e; cases f; simp [toP, PyData.eqv]
  | .ty _, _, _, _, e, _ | .lst _, _, _, _, e, _ | .ins _ _ _, _, _, _, e, _ | .cell _, _, _, _, e, _ | .dct _, _, _, _, e, _ => by cases e
  | _, .ty _, _, _, _, e | _, .lst _, _, _, _, e | _, .ins _ _ _, _, _, _, e | _, .cell _, _, _, _, e | _, .dct _, _, _, _, e => by cases e
theorem eqv_keys : ∀ (xs ys : List D) (ks ls : List NestedKey), nkeys xs = some ks → nkeys ys = some ls → PyData.eqvAll (toPs xs) (toPs ys) = decide (ks = ls)
  | [], [], _, _, e, f => by cases e; cases f; simp [toPs, PyData.eqvAll]
  | [], y :: ys, _, ls, e, f => by
    cases e
    have f : (nkey y).bind (fun k => (nkeys ys).map (k :: ·)) = some ls := f
    cases z : nkey y with
    | none => rw [z] at f; cases f
    | some k =>
      rw [z] at f
      cases w : nkeys ys with
      | none => rw [w] at f; cases f
      | some l => rw [w] at f; cases f; simp [toPs, PyData.eqvAll]
  | y :: ys, [], ls, _, f, e => by
    cases e
    have f : (nkey y).bind (fun k => (nkeys ys).map (k :: ·)) = some ls := f
    cases z : nkey y with
    | none => rw [z] at f; cases f
    | some k =>
      rw [z] at f
      cases w : nkeys ys with
      | none => rw [w] at f; cases f
      | some l => rw [w] at f; cases f; simp [toPs, PyData.eqvAll]
  | x :: xs, y :: ys, ks, ls, e, f => by
    have e : (nkey x).bind (fun k => (nkeys xs).map (k :: ·)) = some ks := e
    have f : (nkey y).bind (fun k => (nkeys ys).map (k :: ·)) = some ls := f
    cases z : nkey x with
    | none => rw [z] at e; cases e
    | some k =>
      cases z2 : nkey y with
      | none => rw [z2] at f; cases f
      | some l =>
        rw [z] at e
        rw [z2] at f
        cases w : nkeys xs with
        | none => rw [w] at e; cases e
        | some k2 =>
          cases w2 : nkeys ys with
          | none => rw [w2] at f; cases f
          | some l2 =>
            rw [w] at e
            rw [w2] at f
            cases e; cases f
            simp only [toPs, PyData.eqvAll]
            rw [eqv_key x y k l z z2, eqv_keys xs ys k2 l2 w w2]
            simp
end
/-- as a key among keys -/
def mem (q : D) (bs : List D) : Bool := bs.any fun y => decide (nkey y = nkey q)
theorem mem_ins (q : D) : ∀ (bs acc : List D), mem q (bs.foldl insK acc) = (mem q acc || mem q bs)
  | [], acc => by simp [mem]
  | b :: bs, acc => by
    rw [List.foldl_cons, mem_ins q bs]
    have : mem q (insK acc b) = (mem q acc || decide (nkey b = nkey q)) := by
      unfold insK
      split
      · rename_i h
        obtain ⟨y, hy, e⟩ := List.any_eq_true.mp h
        have e := of_decide_eq_true e
        by_cases z : nkey b = nkey q
        · have : mem q acc = true := List.any_eq_true.mpr ⟨y, hy, decide_eq_true (e.trans z)⟩
          rw [this]; simp
        · rw [decide_eq_false z, Bool.or_false]
      · unfold mem
        rw [List.any_append]
        simp
    rw [this]
    unfold mem
    rw [List.any_cons, Bool.or_assoc]
theorem keyOk_key {d : D} (h : keyOk d = true) : ∃ k, nkey d = some k := by
  obtain ⟨_, k, _, e, _⟩ := keyOk_of h
  exact ⟨k, e⟩
theorem any_mem {q : D} (hq : keyOk q = true) : ∀ {bs : List D}, (∀ b ∈ bs, keyOk b = true) → ((toPs bs).any fun y => PyData.eqv y (toP q)) = mem q bs
  | [], _ => by simp [toPs, mem]
  | b :: bs, h => by
    obtain ⟨k, hk⟩ := keyOk_key hq
    obtain ⟨l, hl⟩ := keyOk_key (h b List.mem_cons_self)
    have ih := any_mem hq (bs := bs) fun y hy => h y (List.mem_cons_of_mem _ hy)
    rw [toPs, List.any_cons, ih, eqv_key b q l k hl hk]
    unfold mem
    rw [List.any_cons, hl, hk]
    simp
/-- q in d, d a dict with the keys bs; q in bs -/
theorem Is.inD {neg : Bool} {q : D} {bs : List D} (hq : keyOk q = true) (g1 : Is M e1 ρ q) (g2 : Is M e2 ρ (.dct (bs.foldl insK []))) : Is M (.cmp (if neg = true then .NotIn else .In) e1 e2) ρ (.bl (xor neg (mem q bs))) := fun P E p => by
  obtain ⟨ds, k, rfl, ek, dk⟩ := keyOk_of hq
  have m : ((bs.foldl insK []).any fun y => decide (nkey y = some k)) = mem (.tup ds) bs := by
    have := mem_ins (.tup ds) bs []
    unfold mem at this ⊢
    rw [ek] at this ⊢
    rw [this]
    simp
  have r : ∀ b : Bool, dIn b (.tup ds) (.dct (bs.foldl insK [])) P E = (∃ k, nkey (.tup ds) = some k ∧ k.depth ≤ 8 ∧ P (.bl (xor b ((bs.foldl insK []).any fun y => decide (nkey y = some k))))) := fun b => rfl
  cases neg with
  | true =>
    simp only [if_true, semE, w2, cmpD]
    exact g1 _ _ (g2 _ _ (by rw [r]; exact ⟨k, ek, dk, by rw [m]; exact p⟩))
  | false =>
    simp only [Bool.false_eq_true, if_false, semE, w2, cmpD]
    exact g1 _ _ (g2 _ _ (by rw [r]; exact ⟨k, ek, dk, by rw [m]; exact p⟩))
theorem Is.inK {neg : Bool} {q : D} {bs : List D} (hq : keyOk q = true) (pq : PL 20 q) (hb : ∀ b ∈ bs, keyOk b = true) (pb : ∀ b ∈ bs, PL 20 b) (g1 : Is M e1 ρ q) (g2 : Is M e2 ρ (.lst bs)) : Is M (.cmp (if neg = true then .NotIn else .In) e1 e2) ρ (.bl (xor neg (mem q bs))) := fun P E p => by
  have m := any_mem hq hb
  cases neg with
  | true =>
    simp only [if_true, semE, w2, cmpD]
    exact g1 _ _ (g2 _ _ ⟨pq.lay, pq.dep, (PL.all pb).1, by rw [m]; exact p⟩)
  | false =>
    simp only [Bool.false_eq_true, if_false, semE, w2, cmpD]
    exact g1 _ _ (g2 _ _ ⟨pq.lay, pq.dep, (PL.all pb).1, by rw [m]; exact p⟩)
theorem Is.dct {own : List (Str × Nat)} {i : Nat} {bs : List D} (hi : i < ρ.length) (ho : noOwn ρ (own.map (·.2)) = true) (hl : bs.length ≤ 1000) (hb : ∀ b ∈ bs, keyOk b = true) (g : Is M e ρ (.lst bs)) : Is M (.dcT own i (.lst e)) ρ (.dct (bs.foldl insK [])) := fun P E q => by
  simp only [semE, semI, wDct, wLstI]
  exact ⟨ho, hi, g _ _ ⟨hl, hb, q⟩⟩
theorem Is.to_isN {x : D} (g : Is M e1 ρ x) : Is M (.cmp .Is e1 (.cst .non)) ρ (.bl (Tr.isNon x)) := Is.isNB g
theorem IsT.isNot {x : D} (g : Is M e1 ρ x) : IsT M (.cmp .IsNot e1 (.cst .non)) ρ (!Tr.isNon x) := fun Q E q => by
  simp only [semT, wTst, w2, cmpD]
  refine g _ _ (Is.cst _ _ ?_)
  show isTru (.bl (xor true (Tr.isNon x))) Q
  rw [Bool.true_xor]
  exact q
theorem Is.eqSB (g1 : Is M e1 ρ (.str s)) (g2 : Is M e2 ρ (.str t)) : Is M (.cmp .Eq e1 e2) ρ (.bl (decide (s = t))) := fun P E q => by
  simp only [semE, w2, cmpD]
  exact g1 _ _ (g2 _ _ (by rw [dEq_s]; exact q))
/-- an item of a list, of a tuple, made out of xs -/
theorem atI_map {α : Type} {f : α → D} {xs : List α} {i : Int} (dflt : α) (h0 : 0 ≤ i) (h1 : i < xs.length) : L2.atI (xs.map f) i = some (f (xs.getD i.toNat dflt)) := by
  have hl : i.toNat < xs.length := by omega
  have := L2.atI_nat (xs := xs.map f) (j := i.toNat) (v := f (xs.getD i.toNat dflt)) (by rw [List.getElem?_map, List.getElem?_eq_getElem hl, List.getD_eq_getElem?_getD, List.getElem?_eq_getElem hl]; rfl)
  rwa [Int.toNat_of_nonneg h0] at this
theorem getD_mem {α : Type} {xs : List α} {i : Int} (dflt : α) (h0 : 0 ≤ i) (h1 : i < xs.length) : xs.getD i.toNat dflt ∈ xs := by
  have hl : i.toNat < xs.length := by omega
  rw [List.getD_eq_getElem?_getD, List.getElem?_eq_getElem hl]
  exact List.getElem_mem hl
/-- the first of n numbers at which p holds -/
def firstF (p : Int → Bool) : Nat → Int → Option Int
  | 0, _ => none
  | n + 1, i => if p i = true then some i else firstF p n (i + 1)
def optI : Option Int → D
  | none => .non
  | some i => .int i
theorem firstF_bd {p : Int → Bool} : ∀ {n : Nat} {i k : Int}, firstF p n i = some k → i ≤ k ∧ k < i + n ∧ p k = true
  | 0, _, _, h => by cases h
  | n + 1, i, k, h => by
    unfold firstF at h
    split at h
    · cases h; rename_i q; exact ⟨Int.le_refl _, by omega, q⟩
    · obtain ⟨a, b, c⟩ := firstF_bd h
      exact ⟨by omega, by omega, c⟩
/-- a loop over range(n) that returns its first number at which p holds; else what follows -/
theorem for_first {b : List IS} {i : Nat} {n : Nat} {p : Int → Bool} {r : List IS} (he : Is M e ρ (.int n)) (hn : n ≤ 1000) (I : List Slot → Prop) (h0 : I ρ)
    (hb : ∀ (k : Int) (ρ : List Slot) (AA : EndsD), 0 ≤ k → k < n → I ρ → (p k = true → AA.rt (.int k)) → (p k = false → ∀ ρ', I ρ' → AA.nx ρ') → semB M b AA (ρ.set i (.val (.int k))))
    (h1 : ∀ k, firstF p n 0 = some k → A.rt (.int k)) (h2 : firstF p n 0 = none → ∀ ρ', I ρ' → semB M r A ρ') : semB M (.for (.nm i) (.rg1 e) b :: r) A ρ := by
  refine semB_c (seq_mid (J := fun ρ => firstF p n 0 = none ∧ I ρ) (fun N hN => sfor_r he (by unfold small62; omega) ?_) fun ρ h => h2 h.1 ρ h.2)
  refine for_rg (fun k ρ => firstF p (n - k.toNat) k = firstF p n 0 ∧ I ρ) (by omega) ⟨rfl, h0⟩ (fun k k0 k1 ρ N' hI hN' => ?_) fun ρ hI => ?_
  · obtain ⟨e0, hI⟩ := hI
    refine semG_n (hb k ρ _ k0 k1 hI (fun hp => ?_) fun hp ρ' hI' => ?_)
    · refine h1 k ?_
      rw [← e0, show n - k.toNat = (n - (k + 1).toNat) + 1 by omega]
      unfold firstF
      rw [if_pos hp]
    · refine hN' ρ' ⟨?_, hI'⟩
      rw [← e0, show n - k.toNat = (n - (k + 1).toNat) + 1 by omega]
      conv => rhs; unfold firstF
      rw [hp]
      rfl
  · refine hN ρ ⟨?_, hI.2⟩
    rw [← hI.1, show n - (n : Int).toNat = 0 by omega]
    rfl
/-- a loop over range(n) that returns w at its first number at which p holds; else what follows -/
theorem for_some {b : List IS} {i : Nat} {n : Nat} {p : Int → Bool} {w : D} {r : List IS} (he : Is M e ρ (.int n)) (hn : n ≤ 1000) (I : List Slot → Prop) (h0 : I ρ)
    (hb : ∀ (k : Int) (ρ : List Slot) (AA : EndsD), 0 ≤ k → k < n → I ρ → (p k = true → AA.rt w) → (p k = false → ∀ ρ', I ρ' → AA.nx ρ') → semB M b AA (ρ.set i (.val (.int k))))
    (h1 : (∃ k : Int, 0 ≤ k ∧ k < n ∧ p k = true) → A.rt w) (h2 : (∀ k : Int, 0 ≤ k → k < n → p k = false) → ∀ ρ', I ρ' → semB M r A ρ') : semB M (.for (.nm i) (.rg1 e) b :: r) A ρ := by
  refine semB_c (seq_mid (J := fun ρ => (∀ k : Int, 0 ≤ k → k < n → p k = false) ∧ I ρ) (fun N hN => sfor_r he (by unfold small62; omega) ?_) fun ρ h => h2 h.1 ρ h.2)
  refine for_rg (fun k ρ => (∀ j : Int, 0 ≤ j → j < k → p j = false) ∧ I ρ) (by omega) ⟨fun j a b => by omega, h0⟩ (fun k k0 k1 ρ N' hI hN' => ?_) fun ρ hI => hN ρ hI
  refine semG_n (hb k ρ _ k0 k1 hI.2 (fun hp => h1 ⟨k, k0, k1, hp⟩) fun hp ρ' hI' => hN' ρ' ⟨fun j j0 j1 => ?_, hI'⟩)
  rcases Int.lt_or_eq_of_le (show j ≤ k by omega) with z | z
  · exact hI.1 j j0 z
  · rw [z]; exact hp
theorem IsT.of {op : CmpOp} {z : Bool} (g : Is M (.cmp op e1 e2) ρ (.bl z)) : IsT M (.cmp op e1 e2) ρ z := fun Q E q => by
  have := g (fun d => isTru d Q) E q
  simp only [semT, wTst, w2]
  simpa only [semE, w2] using this
theorem Is.amidT {ss : List Str} (hx : PyData.strOk s = true) (hs : (ss.all fun s => PyData.strOk s) = true) (g1 : Is M e1 ρ (.str s)) (g2 : Is M e2 ρ (.tup (ss.map D.str))) : Is M (.cmp .In e1 e2) ρ (.bl (amidS s ss)) := fun P E q => by
  simp only [semE, w2, cmpD]
  exact g1 _ _ (g2 _ _ ⟨by simp [toP, PyData.canLay0, hx], by simp [toP, PyData.depth], lay_strs ss hs, by rw [Bool.false_xor]; exact q⟩)
theorem IsT.inO {neg : Bool} {i : Nat} {ss : List Str} (hi : ρ[i]? = some (.own (.lst (ss.map D.str)))) (hx : PyData.strOk s = true) (hs : (ss.all fun s => PyData.strOk s) = true) (g : Is M e ρ (.str s)) : IsT M (.inO neg e i) ρ (xor neg (amidS s ss)) := fun Q E q => by
  simp only [semT, wTst, wInO, ownL, hi]
  exact g _ _ ⟨by simp [toP, PyData.canLay0, hx], by simp [toP, PyData.depth], lay_strs ss hs, q⟩
/-- [.. for x in a list if ..] -/
theorem Is.lcF {α β : Type} {own : List (Str × Nat)} {i : Nat} {c : IE} {q : IT} {mk : α → D} (keep : α → Bool) (f : α → β) (out : β → D) {xs : List α} (gs : Is M c ρ (.lst (xs.map mk))) (hl : xs.length ≤ 1000) (ho : noOwn ρ (own.map (·.2)) = true)
    (ht : ∀ a ∈ xs, IsT M q ((wipeR ρ (own.map (·.2))).set i (.val (mk a))) (keep a)) (h : ∀ a ∈ xs, Is M e ((wipeR ρ (own.map (·.2))).set i (.val (mk a))) (out (f a))) :
    Is M (.lc own (.nm i) (.lst c) [q] e) ρ (.lst ((xs.filter keep).map fun a => out (f a))) := fun P E w => by
  simp only [semE, wLc]
  refine ⟨ho, ?_⟩
  simp only [semI, wLstI]
  refine gs _ _ ?_
  simp only [isLst]
  refine lc_fil0 keep f out _ hl (fun a ha Q C h1 h2 => semG_n ?_) ?_
  · show semT M q _ (fun b => if b = true then _ else _) _
    refine ht a ha _ _ ?_
    cases hk : keep a with
    | true => exact h a ha _ _ (h1 hk)
    | false => exact h2 hk
  · rw [List.map_map]
    exact w
theorem Is.eqBB {y z : Bool} (g1 : Is M e1 ρ (.bl y)) (g2 : Is M e2 ρ (.bl z)) : Is M (.cmp .Eq e1 e2) ρ (.bl (decide (y = z))) := fun P E q => by
  simp only [semE, w2, cmpD]
  exact g1 _ _ (g2 _ _ (by rw [dEq_b]; exact q))
end
section
variable {M : Sm} {e e1 e2 : IE} {ρ : List Slot} {A : EndsD}
theorem app_k {i : Nat} {r : List IS} {ds : List D} (hi : ρ[i]? = some (.own (.lst ds))) (h : semE M e ρ (fun d => ds.length < sizeLine ∧ semB M r A (ρ.set i (.own (.lst (ds ++ [d]))))) fun x => A.xe x ρ) : semB M (.app i e :: r) A ρ := by
  show sSeq (semS M (.app i e)) (semB M r) A ρ
  simp only [sSeq, semS, sApp, ownL, hi]
  exact h
theorem sfor_any {g : IG} {b : List IS} (h : semE M e ρ (fun d => isInt d fun n => small62 n ∧ forL (semG g) (semB M b) (rgD 0 n) A ρ) fun x => A.xe x ρ) : semS M (.for g (.rg1 e) b) A ρ := by
  simp only [semS, sFor, semI, wRg1]
  exact h
theorem valT_is {Q : Bool → Prop} {E : Exc → Prop} (h : semE M e ρ (fun d => dTru d Q) E) : semT M (.val e) ρ Q E := by
  simp only [semT, wTru]; exact h
theorem sfor_anyL {g : IG} {b : List IS} (h : semE M e ρ (fun d => isLst d fun ds => forL (semG g) (semB M b) ds A ρ) fun x => A.xe x ρ) : semS M (.for g (.lst e) b) A ρ := by
  simp only [semS, sFor, semI, wLstI]
  exact h
/-- a loop over a list that gives no value of its own -/
theorem for_each {α : Type} {g : WG} {b : WS} {mk : α → D} : ∀ {xs : List α} (I : List Slot → Prop) {ρ : List Slot}, I ρ →
    (∀ a ∈ xs, ∀ (ρ : List Slot) (N : List Slot → Prop), I ρ → (∀ ρ', I ρ' → N ρ') → g (mk a) ρ fun ρ1 => b { A with nx := N, ct := N, bk := A.nx } ρ1) → (∀ ρ, I ρ → A.nx ρ) → forL g b (xs.map mk) A ρ := fun {xs} I {ρ} h0 hs he =>
  for_inv (fun _ ρ => I ρ) h0 (fun i hl ρ N hI hN => by
    rw [List.length_map] at hl
    rw [List.getElem_map]
    exact hs _ (List.getElem_mem hl) ρ N hI hN) he
/-- a comprehension over a range whose items are not settled -/
theorem lc_any {own : List (Str × Nat)} {i : Nat} {s : IE} {k : Int} {β : Type} {P : D → Prop} {E : Exc → Prop} (Rel : Int → β → Prop) (out : β → D) (gn : Is M s ρ (.int k)) (hk : 0 ≤ k ∧ k ≤ 1000) (ho : noOwn ρ (own.map (·.2)) = true)
    (h : ∀ a, 0 ≤ a → a < k → ∀ Q : D → Prop, (∀ b, Rel a b → Q (out b)) → semE M e ((wipeR ρ (own.map (·.2))).set i (.val (.int a))) Q fun _ => False) (q : ∀ bs : List β, All2 Rel (rgI 0 k) bs → P (.lst (bs.map out))) : semE M (.lc own (.nm i) (.rg1 s) [] e) ρ P E := by
  simp only [semE, wLc]
  refine ⟨ho, ?_⟩
  simp only [semI, wRg1]
  refine gn _ _ ?_
  rw [isInt_d]
  exact ⟨by unfold small62; omega, lc_rg Rel out (by omega) (fun a a0 a1 Q hQ => semG_n (h a a0 a1 Q hQ)) q⟩
end
theorem all2_get {α β : Type} {R : α → β → Prop} {xs : List α} {ys : List β} (h : All2 R xs ys) : ∀ {i : Nat} {y : β}, ys[i]? = some y → ∃ x, xs[i]? = some x ∧ R x y := by
  induction h with
  | nil => intro i y e; simp at e
  | cons r _ ih =>
    intro i y e
    cases i with
    | zero => simp at e; subst e; exact ⟨_, rfl, r⟩
    | succ i => exact ih (by simpa using e)
theorem rgI_at {k : Int} {i : Nat} {a : Int} (h : (rgI 0 k)[i]? = some a) : a = i := by
  have e : (rgD 0 k)[i]? = some (.int a) := by rw [rgD_I, List.getElem?_map, h]; rfl
  have := rgD_get e
  injection this with z
  omega
def nOwn : Slot → Bool
  | .own _ => false
  | _ => true
theorem noOwn_one {ρ : List Slot} {i : Nat} {v : Slot} (e : ρ[i]? = some v) (h : nOwn v = true) : noOwn ρ [i] = true := by
  unfold noOwn
  simp only [List.all_cons, List.all_nil, e]
  cases v with
  | own o => cases h
  | _ => rfl
end Tr

namespace Tr
open PySem PySem.Spec PyProof.Rows L2
/-! ### lists of numbers: where, among, from there on -/
def iOf (a : Int) : List Int → Nat
  | [] => 0
  | x :: xs => if x = a then 0 else iOf a xs + 1
theorem iOf_spec {a : Int} : ∀ {ns : List Int}, a ∈ ns → ns[iOf a ns]? = some a ∧ (∀ m, m < iOf a ns → ns[m]? ≠ some a) ∧ iOf a ns < ns.length
  | [], h => nomatch h
  | x :: xs, h => by
    unfold iOf
    split
    · rename_i e
      subst e
      exact ⟨rfl, (fun m hm => by omega), by simp⟩
    · rename_i e
      have h' : a ∈ xs := by
        rcases List.mem_cons.mp h with z | z
        · exact absurd z.symm e
        · exact z
      obtain ⟨h1, h2, h3⟩ := iOf_spec h'
      refine ⟨by simpa using h1, fun m hm => ?_, by simp; omega⟩
      cases m with
      | zero => intro z; exact e (by simpa using z)
      | succ m => intro z; exact h2 m (by omega) (by simpa using z)
theorem iOf_nodup {ns : List Int} (h : ns.Nodup) {i : Nat} {a : Int} (e : ns[i]? = some a) : iOf a ns = i := by
  obtain ⟨h1, h2, h3⟩ := iOf_spec (List.mem_of_getElem? e)
  have l := (List.getElem?_eq_some_iff.mp e).1
  rcases Nat.lt_trichotomy (iOf a ns) i with z | z | z
  · have e1 := (List.getElem?_eq_some_iff.mp h1).2
    have e2 := (List.getElem?_eq_some_iff.mp e).2
    exact absurd (e1.trans e2.symm) (List.pairwise_iff_getElem.mp h _ _ h3 l z)
  · exact z
  · exact absurd e (h2 i z)
theorem holes : ∀ (n : Nat) (l : List Int), l.Nodup → (∀ x ∈ l, 0 ≤ x ∧ x < n) → l.length ≤ n
  | 0, l, _, h => by
    cases l with
    | nil => simp
    | cons x xs => have := h x List.mem_cons_self; omega
  | n + 1, l, hd, h => by
    by_cases c : (n : Int) ∈ l
    · have := holes n (l.erase n) (hd.erase _) fun x hx => by
        have a := h x (List.mem_of_mem_erase hx)
        have b := (List.Nodup.mem_erase_iff hd).mp hx
        have : x ≠ n := b.1
        omega
      rw [List.length_erase_of_mem c] at this
      omega
    · have := holes n l hd fun x hx => by
        have a := h x hx
        have : x ≠ n := fun z => c (z ▸ hx)
        omega
      omega
theorem firstF_none {p : Int → Bool} : ∀ {n : Nat} {i : Int}, firstF p n i = none → ∀ j, i ≤ j → j < i + n → p j = false
  | 0, i, _, j, a, b => by omega
  | n + 1, i, h, j, a, b => by
    unfold firstF at h
    split at h
    · cases h
    · rename_i c
      rcases Int.lt_or_eq_of_le a with z | z
      · exact firstF_none h j (by omega) (by omega)
      · rw [← z]; simpa using c
theorem firstF_min {p : Int → Bool} : ∀ {n : Nat} {i k : Int}, firstF p n i = some k → ∀ j, i ≤ j → j < k → p j = false
  | 0, i, k, h, j, a, b => by cases h
  | n + 1, i, k, h, j, a, b => by
    unfold firstF at h
    split at h
    · cases h; omega
    · rename_i c
      rcases Int.lt_or_eq_of_le a with z | z
      · exact firstF_min h j (by omega) b
      · rw [← z]; simpa using c
theorem firstF_ex {p : Int → Bool} : ∀ {n : Nat} {i j : Int}, i ≤ j → j < i + n → p j = true → ∃ k, firstF p n i = some k
  | 0, i, j, a, b, _ => by omega
  | n + 1, i, j, a, b, h => by
    unfold firstF
    split
    · exact ⟨_, rfl⟩
    · rename_i c
      rcases Int.lt_or_eq_of_le a with z | z
      · exact firstF_ex (by omega) (by omega) h
      · exact absurd (z ▸ h) c
theorem firstF_succ {p : Int → Bool} : ∀ (n : Nat) (i : Int), firstF p (n + 1) i = (firstF p n i).or (if p (i + n) = true then some (i + n) else none)
  | 0, i => by
    show (if p i = true then some i else none) = Option.or none _
    simp
  | n + 1, i => by
    have ih := firstF_succ (p := p) n (i + 1)
    show (if p i = true then some i else firstF p (n + 1) (i + 1)) = Option.or (if p i = true then some i else firstF p n (i + 1)) _
    rw [ih]
    split
    · rfl
    · rw [show i + 1 + (n : Int) = i + ((n + 1 : Nat) : Int) by omega]
section
variable {M : Sm} {e e1 e2 : IE} {ρ : List Slot} {a : Int} {ns : List Int}
theorem any_int (ns : List Int) : ((toPs (ns.map D.int)).any fun y => PyData.eqv y (toP (.int a))) = decide (a ∈ ns) := by
  rw [toPs_map, List.any_map]
  induction ns with
  | nil => simp
  | cons x xs ih =>
    rw [List.any_cons, ih]
    simp only [Function.comp, toP, PyData.eqv]
    rw [Bool.beq_eq_decide_eq]
    by_cases z : x = a
    · simp [z]
    · have : ¬ a = x := fun h => z h.symm
      simp [z, this]
theorem lay_int : ∀ ns : List Int, PyData.canLayAll0 (toPs (ns.map D.int)) = true
  | [] => by simp [toPs, PyData.canLayAll0]
  | n :: ns => by simp [toPs, toP, PyData.canLayAll0, PyData.canLay0]; simpa using lay_int ns
theorem IsT.inOi {neg : Bool} {i : Nat} (hi : ρ[i]? = some (.own (.lst (ns.map D.int)))) (g : Is M e ρ (.int a)) : IsT M (.inO neg e i) ρ (xor neg (decide (a ∈ ns))) := fun Q E q => by
  simp only [semT, wTst, wInO, ownL, hi]
  exact g _ _ ⟨by simp [toP, PyData.canLay0], by simp [toP, PyData.depth], lay_int ns, by rw [any_int]; exact q⟩
theorem Is.lenO {i : Nat} {ds : List D} (hi : ρ[i]? = some (.own (.lst ds))) : Is M (.lenO i) ρ (.int ds.length) := fun P E q => by
  simp only [semE, wLenO, ownL, hi]; exact q
theorem Is.idx (g1 : Is M e1 ρ (.lst (ns.map D.int))) (g2 : Is M e2 ρ (.int a)) (h : a ∈ ns) : Is M (.idx e1 e2) ρ (.int (iOf a ns)) := fun P E q => by
  simp only [semE, wIdx]
  obtain ⟨h1, h2, h3⟩ := iOf_spec h
  exact g1 _ _ (g2 _ _ ⟨ns, a, iOf a ns, rfl, rfl, h1, h2, q⟩)
theorem Is.slFrN {k : Nat} (g1 : Is M e1 ρ (.lst (ns.map D.int))) (g2 : Is M e2 ρ (.int k)) (hk : k ≤ ns.length) : Is M (.slFr e1 e2) ρ (.lst ((ns.drop k).map D.int)) := fun P E q => by
  simp only [semE, w2]
  refine g1 _ _ (g2 _ _ ?_)
  show P (.lst (cutD _ _ _))
  have : cutD (ns.map D.int) (some (k : Int)) none = (ns.drop k).map D.int := by
    unfold cutD
    rw [HT.sIx_nat, HT.sIx_none, List.length_map, Nat.min_eq_left hk, List.take_of_length_le (by rw [List.length_drop, List.length_map]; omega), List.map_drop]
  rw [this]
  exact q
end
section
variable {M : Sm} {e e1 e2 : IE} {ρ : List Slot} {A : EndsD}
theorem orT_is {s t : IT} {x : Bool} {Q : Bool → Prop} {E : Exc → Prop} (g : IsT M s ρ x) (h1 : x = true → Q true) (h2 : x = false → semT M t ρ Q E) : semT M (.or s t) ρ Q E := by
  simp only [semT, wOr]
  refine g _ _ ?_
  cases x with
  | true => exact h1 rfl
  | false => exact h2 rfl
theorem sfor_two {g : IG} {b : List IS} {lo hi : Int} (g1 : Is M e1 ρ (.int lo)) (g2 : Is M e2 ρ (.int hi)) (h1 : small62 lo) (h2 : small62 hi) (h : forL (semG g) (semB M b) (rgD lo hi) A ρ) : semS M (.for g (.rg2 e1 e2) b) A ρ := by
  simp only [semS, sFor]
  refine rg2_i g1 g2 h1 h2 ?_
  rw [← rgD_I]
  exact h
theorem atI_last {α : Type} {f : α → D} {xs : List α} (d : α) (h : xs ≠ []) : L2.atI (xs.map f) (-1) = some (f (xs.getLastD d)) := by
  have l : 0 < xs.length := List.length_pos_iff.mpr h
  unfold L2.atI L2.ixN
  rw [if_neg (by decide), List.length_map, if_pos (by omega)]
  show (xs.map f)[(-1 + (xs.length : Int)).toNat]? = _
  rw [List.getElem?_map, show (-1 + (xs.length : Int)).toNat = xs.length - 1 by omega, ← List.getLast?_eq_getElem?, List.getLastD_eq_getLast?]
  cases z : xs.getLast? with
  | none => rw [List.getLast?_eq_none_iff] at z; exact absurd z h
  | some x => rfl
end
end Tr

namespace Tr
open PySem PySem.Spec PyProof.Rows L2
/-! ### tuples cut and joined; comprehensions over tuples with a test; own dicts; properties -/
section
variable {M : Sm} {e e1 e2 : IE} {ρ : List Slot} {A : EndsD} {a : Int} {x y : Str}
theorem Is.catT {xs ys : List D} (g1 : Is M e1 ρ (.tup xs)) (g2 : Is M e2 ρ (.tup ys)) (h : xs.length + ys.length ≤ 1000) : Is M (.bin .Add e1 e2) ρ (.tup (xs ++ ys)) := fun P E q => by
  simp only [semE, w2, binD]
  exact g1 _ _ (g2 _ _ ⟨Nat.le_trans h (by decide), q⟩)
theorem Is.slToT {xs : List D} {k : Nat} (g1 : Is M e1 ρ (.tup xs)) (g2 : Is M e2 ρ (.int k)) (hk : k ≤ xs.length) : Is M (.slTo e1 e2) ρ (.tup (xs.take k)) := fun P E q => by
  simp only [semE, w2]
  refine g1 _ _ (g2 _ _ ?_)
  show P (.tup (cutD _ _ _))
  have : cutD xs none (some (k : Int)) = xs.take k := by
    unfold cutD
    rw [HT.sIx_nat, HT.sIx_none, Nat.min_eq_left hk]
    simp
  rw [this]
  exact q
theorem Is.slFrT {xs : List D} {k : Nat} (g1 : Is M e1 ρ (.tup xs)) (g2 : Is M e2 ρ (.int k)) (hk : k ≤ xs.length) : Is M (.slFr e1 e2) ρ (.tup (xs.drop k)) := fun P E q => by
  simp only [semE, w2]
  refine g1 _ _ (g2 _ _ ?_)
  show P (.tup (cutD _ _ _))
  have : cutD xs (some (k : Int)) none = xs.drop k := by
    unfold cutD
    rw [HT.sIx_nat, HT.sIx_none, Nat.min_eq_left hk, List.take_of_length_le (by rw [List.length_drop]; omega)]
  rw [this]
  exact q
theorem Is.lcFT {α β : Type} {own : List (Str × Nat)} {i : Nat} {c : IE} {q : IT} {mk : α → D} (keep : α → Bool) (f : α → β) (out : β → D) {xs : List α} (gs : Is M c ρ (.tup (xs.map mk))) (hl : xs.length ≤ 1000) (ho : noOwn ρ (own.map (·.2)) = true)
    (ht : ∀ a ∈ xs, IsT M q ((wipeR ρ (own.map (·.2))).set i (.val (mk a))) (keep a)) (h : ∀ a ∈ xs, keep a = true → Is M e ((wipeR ρ (own.map (·.2))).set i (.val (mk a))) (out (f a))) :
    Is M (.lc own (.nm i) (.tup c) [q] e) ρ (.lst ((xs.filter keep).map fun a => out (f a))) := fun P E w => by
  simp only [semE, wLc]
  refine ⟨ho, ?_⟩
  simp only [semI, wTupI]
  refine gs _ _ ?_
  simp only [isTup]
  refine lc_fil0 keep f out _ hl (fun a ha Q C h1 h2 => semG_n ?_) ?_
  · show semT M q _ (fun b => if b = true then _ else _) _
    refine ht a ha _ _ ?_
    cases hk : keep a with
    | true => exact h a ha hk _ _ (h1 hk)
    | false => exact h2 hk
  · rw [List.map_map]
    exact w
theorem newD_1 {i : Nat} {r : List IS} (h : semB M r A (ρ.set i (.own (.dct [])))) : semB M (.newD i :: r) A ρ := h
theorem putD_s {i : Nat} {k : IE} {r : List IS} {kvs : List (Key × D)} {d : D} (hi : ρ[i]? = some (.own (.dct kvs))) (g : Is M e ρ d) (gk : Is M k ρ (.str x)) (hl : kvs.length < 1000) (h : semB M r A (ρ.set i (.own (.dct (putD kvs (.inr x) d))))) : semB M (.putD i k e :: r) A ρ := by
  show sSeq (semS M (.putD i k e)) (semB M r) A ρ
  simp only [sSeq, semS, sPutD, ownD, hi]
  exact g _ _ (gk _ _ ⟨Nat.lt_of_lt_of_le hl (by decide), h⟩)
theorem Is.lenD {i : Nat} {kvs : List (Key × D)} (hi : ρ[i]? = some (.own (.dct kvs))) : Is M (.lenD i) ρ (.int kvs.length) := fun P E q => by
  simp only [semE, wLenD, ownD, hi]; exact q
theorem Is.keysD {i : Nat} {kvs : List (Key × D)} (hi : ρ[i]? = some (.own (.dct kvs))) : Is M (.keysD i) ρ (.lst (kvs.map fun x => keyD x.1)) := fun P E q => by
  simp only [semE, wKeysD, ownD, hi]; exact q
theorem Is.prop {i k f : Nat} {ns : List Nat} {vs : List D} {v : D} (g : Is M e ρ (.ins k ns vs)) (hm : M.pt k i = some f) (q : ∀ (P : D → Prop) (E : Exc → Prop), P v → M.prp f [.ins k ns vs] P E) : Is M (.prop i e) ρ v := fun P E p => by
  simp only [semE, wProp]
  refine g _ _ ?_
  show hasI _ _
  rw [hm]
  exact q _ _ p
/-- a list of texts in the order of their first -/
def insS (acc : List Str) (x : Str) : List Str := if x ∈ acc then acc else acc ++ [x]
def trus (xs : List Str) : List (Key × D) := xs.map fun x => (.inr x, .bl true)
theorem hasK_trus (xs : List Str) (x : Str) : hasK (trus xs) (.inr x) = decide (x ∈ xs) := by
  induction xs with
  | nil => simp [trus, hasK]
  | cons y ys ih =>
    have : hasK (trus (y :: ys)) (.inr x) = (decide ((Sum.inr y : Key) = .inr x) || hasK (trus ys) (.inr x)) := rfl
    rw [this, ih]
    by_cases z : y = x
    · simp [z]
    · have : ¬ x = y := fun h => z h.symm
      simp [z, this]
theorem putD_trus (xs : List Str) (x : Str) : putD (trus xs) (.inr x) (.bl true) = trus (insS xs x) := by
  unfold putD insS
  rw [hasK_trus]
  by_cases z : x ∈ xs
  · rw [decide_eq_true z, if_pos rfl, if_pos z]
    unfold trus
    rw [List.map_map]
    refine List.map_congr_left fun y _ => ?_
    show (if (Sum.inr y : Key) = .inr x then _ else _) = _
    split <;> rfl
  · rw [decide_eq_false z, if_neg (by decide), if_neg z]
    unfold trus
    rw [List.map_append]
    rfl
theorem keys_trus (xs : List Str) : (trus xs).map (fun x => keyD x.1) = xs.map D.str := by unfold trus; rw [List.map_map]; rfl
theorem amid_mem (hx : PyData.strOk x = true) {ss : List Str} (hs : (ss.all fun s => PyData.strOk s) = true) : amidS x ss = decide (x ∈ ss) := by
  unfold amidS
  rw [toPs_map, List.any_map]
  clear hs
  induction ss with
  | nil => simp
  | cons y ys ih =>
    rw [List.any_cons, ih]
    simp only [Function.comp, toP, PyData.eqv]
    rw [Bool.beq_eq_decide_eq]
    by_cases z : y = x
    · simp [z]
    · have : ¬ x = y := fun h => z h.symm
      simp [z, this]
end
end Tr
namespace Tr
open PySem PySem.Spec PyProof.Rows L2
section
variable {M : Sm} {e e1 e2 : IE} {ρ : List Slot} {A : EndsD} {a : Int} {x y : Str}
/-- the same of a list, an item only where the test holds -/
theorem Is.lcFK {α β : Type} {own : List (Str × Nat)} {i : Nat} {c : IE} {q : IT} {mk : α → D} (keep : α → Bool) (f : α → β) (out : β → D) {xs : List α} (gs : Is M c ρ (.lst (xs.map mk))) (hl : xs.length ≤ 1000) (ho : noOwn ρ (own.map (·.2)) = true)
    (ht : ∀ a ∈ xs, IsT M q ((wipeR ρ (own.map (·.2))).set i (.val (mk a))) (keep a)) (h : ∀ a ∈ xs, keep a = true → Is M e ((wipeR ρ (own.map (·.2))).set i (.val (mk a))) (out (f a))) :
    Is M (.lc own (.nm i) (.lst c) [q] e) ρ (.lst ((xs.filter keep).map fun a => out (f a))) := fun P E w => by
  simp only [semE, wLc]
  refine ⟨ho, ?_⟩
  simp only [semI, wLstI]
  refine gs _ _ ?_
  simp only [isLst]
  refine lc_fil0 keep f out _ hl (fun a ha Q C h1 h2 => semG_n ?_) ?_
  · show semT M q _ (fun b => if b = true then _ else _) _
    refine ht a ha _ _ ?_
    cases hk : keep a with
    | true => exact h a ha hk _ _ (h1 hk)
    | false => exact h2 hk
  · rw [List.map_map]
    exact w
def uniq (xs : List Str) : List Str := xs.foldl insS []
theorem insS_len (acc : List Str) (x : Str) : (insS acc x).length ≤ acc.length + 1 := by
  unfold insS
  split <;> simp
theorem fold_len : ∀ (xs acc : List Str), (xs.foldl insS acc).length ≤ acc.length + xs.length
  | [], _ => Nat.le_refl _
  | x :: xs, acc => by
    have h1 := fold_len xs (insS acc x)
    have h2 := insS_len acc x
    rw [List.foldl_cons, List.length_cons]
    omega
theorem mem_insS {acc : List Str} {x y : Str} (h : y ∈ insS acc x) : y ∈ acc ∨ y = x := by
  unfold insS at h
  split at h
  · exact .inl h
  · rcases List.mem_append.mp h with z | z
    · exact .inl z
    · exact .inr (List.mem_singleton.mp z)
theorem insS_mem {acc : List Str} {x y : Str} (h : y ∈ acc) : y ∈ insS acc x := by
  unfold insS
  split
  · exact h
  · exact List.mem_append_left _ h
theorem insS_self {acc : List Str} {x : Str} : x ∈ insS acc x := by
  unfold insS
  split
  · assumption
  · exact List.mem_append_right _ (List.mem_singleton.mpr rfl)
theorem fold_mem {y : Str} : ∀ {xs acc : List Str}, y ∈ acc ∨ y ∈ xs → y ∈ xs.foldl insS acc
  | [], _, h => h.elim id fun z => nomatch z
  | x :: xs, acc, h => by
    refine fold_mem (xs := xs) (acc := insS acc x) ?_
    rcases h with z | z
    · exact .inl (insS_mem z)
    · rcases List.mem_cons.mp z with w | w
      · exact .inl (w ▸ insS_self)
      · exact .inr w
theorem mem_fold {y : Str} : ∀ {xs acc : List Str}, y ∈ xs.foldl insS acc → y ∈ acc ∨ y ∈ xs
  | [], _, h => .inl h
  | x :: xs, acc, h => by
    rcases mem_fold (xs := xs) (acc := insS acc x) h with z | z
    · rcases mem_insS z with w | w
      · exact .inl w
      · exact .inr (w ▸ List.mem_cons_self)
    · exact .inr (List.mem_cons_of_mem _ z)
theorem fold_fold : ∀ (xs b acc : List Str), (xs.foldl insS b).foldl insS acc = xs.foldl insS (b.foldl insS acc)
  | [], _, _ => rfl
  | x :: xs, b, acc => by
    rw [List.foldl_cons, List.foldl_cons, fold_fold xs (insS b x) acc]
    congr 1
    by_cases z : x ∈ b
    · rw [show insS b x = b from if_pos z, show insS (b.foldl insS acc) x = b.foldl insS acc from if_pos (fold_mem (.inr z))]
    · rw [show insS b x = b ++ [x] from if_neg z, List.foldl_append]
      rfl
theorem fold_uniq (xs acc : List Str) : (uniq xs).foldl insS acc = xs.foldl insS acc := fold_fold xs [] acc
end
end Tr

namespace Tr
open PySem PySem.Spec PyProof.Rows L2
/-! ### f-strings, join, lists put behind, new lists handed back -/
def SJ (M : Sm) (es : List IE) (acc : Str) (ρ : List Slot) (out : Str) : Prop := ∀ (P : D → Prop) (E : Exc → Prop), P (.str out) → semJ M es acc ρ P E
section
variable {M : Sm} {e e1 e2 : IE} {es : List IE} {ρ : List Slot} {A : EndsD} {acc out x y : Str} {d : D} {ds : List D} {i k : Nat} {r : List IS}
theorem SJ.nil : SJ M [] acc ρ acc := fun P E q => q
theorem SJ.str (g : Is M e ρ (.str y)) (hl : (acc ++ y).length ≤ 1000) (h : SJ M es (acc ++ y) ρ out) : SJ M (e :: es) acc ρ out := fun P E q => by
  simp only [semJ, wJ1]
  exact g _ _ ⟨y, .inl rfl, hl, h _ _ q⟩
theorem SJ.int {a : Int} (g : Is M e ρ (.int a)) (ha : -(2 ^ 100) < a ∧ a < 2 ^ 100) (hl : (acc ++ Str.ofString (toString a)).length ≤ 1000) (h : SJ M es (acc ++ Str.ofString (toString a)) ρ out) : SJ M (e :: es) acc ρ out := fun P E q => by
  simp only [semJ, wJ1]
  refine g _ _ ⟨_, .inr ⟨a, rfl, ?_, rfl⟩, hl, h _ _ q⟩
  have h1 : a.natAbs < 2 ^ 100 := by omega
  by_cases z : a.natAbs = 0
  · rw [z]; decide
  · have := (Nat.log2_lt z (k := 100)).mpr h1
    omega
theorem Is.fstr (h : SJ M es Str.empty ρ out) : Is M (.fstr es) ρ (.str out) := fun P E q => h _ _ q
theorem Is.join {ys : List Str} (g1 : Is M e1 ρ (.str x)) (g2 : Is M e2 ρ (.lst (ys.map .str))) (h : (ys.map (·.length)).sum + ys.length * x.length ≤ 16777216) : Is M (.join e1 e2) ρ (.str (Txt.join x ys)) := fun P E q => by
  simp only [semE, wJoin]
  exact g1 _ _ (g2 _ _ ⟨ys, .inl rfl, h, q⟩)
theorem ext_1 {es : List D} (hi : ρ[i]? = some (.own (.lst ds))) (g : Is M e ρ (.lst es)) (hl : ds.length + es.length ≤ 1000) (h : semB M r A (ρ.set i (.own (.lst (ds ++ es))))) : semB M (.ext i e :: r) A ρ := by
  show sSeq (semS M (.ext i e)) (semB M r) A ρ
  simp only [sSeq, semS, sExt, ownL, hi]
  exact g _ _ ⟨Nat.le_trans hl (by decide), h⟩
theorem retF_1 (g : Is M e ρ (.lst ds)) (h : A.ro ds) : semB M (.retF e :: r) A ρ := by
  show sSeq (semS M (.retF e)) (semB M r) A ρ
  simp only [sSeq, semS, sRetF]
  exact g _ _ h
theorem iff_f1 {t : IT} {b1 b2 : List IS} (g : IsT M t ρ false) (h : semB M b2 A ρ) : semB M [.iff t b1 b2] A ρ := iff_f g h
theorem iff_t1 {t : IT} {b1 b2 : List IS} (g : IsT M t ρ true) (h : semB M b1 A ρ) : semB M [.iff t b1 b2] A ρ := iff_t g h
theorem set_same {ρ : List Slot} {i : Nat} {v : Slot} (h : ρ[i]? = some v) : ρ.set i v = ρ := by
  have l := (List.getElem?_eq_some_iff.mp h).1
  refine List.ext_getElem? fun j => ?_
  rw [List.getElem?_set]
  split
  · rename_i e; subst e; rw [h]
  · rfl
/-- a loop that puts texts behind a list of one's own -/
theorem app_forN {b : List IS} {acc ls : List Str} (hb : b = [.app i (.var k)]) (hik : k ≠ i) (hi : ρ[i]? = some (.own (.lst (acc.map .str)))) {v0 : Slot} (hk : ρ[k]? = some v0) (T : Slot → Prop) (t0 : T v0) (tv : ∀ s, T (.val (.str s))) (hl : acc.length + ls.length ≤ 900) (g : Is M e ρ (.lst (ls.map .str))) (h : ∀ v, T v → A.nx ((ρ.set i (.own (.lst ((acc ++ ls).map .str)))).set k v)) : semS M (.for (.nm k) (.lst e) b) A ρ := by
  subst hb
  refine sfor_ls g ?_
  have hil := (List.getElem?_eq_some_iff.mp hi).1
  have hkl := (List.getElem?_eq_some_iff.mp hk).1
  refine for_inv (fun j ρ' => ∃ v, T v ∧ ρ' = (ρ.set i (.own (.lst ((acc ++ ls.take j).map .str)))).set k v) ⟨v0, t0, ?_⟩ (fun j hj ρ' N hI hN => ?_) fun ρ' hI => ?_
  · rw [List.take_zero, List.append_nil, set_same hi]
    exact (set_same hk).symm
  · obtain ⟨v, _, rfl⟩ := hI
    have hj : j < ls.length := by rwa [List.length_map] at hj
    rw [List.getElem_map]
    refine semG_n ?_
    rw [List.set_set]
    refine app_1 (ds := (acc ++ ls.take j).map .str) (d := .str ls[j]) ?_ (Is.var ?_) ?_ ?_
    · rw [List.getElem?_set_ne hik, List.getElem?_set_self hil]
    · rw [List.getElem?_set_self (by rw [List.length_set]; exact hkl)]
    · rw [List.length_map, List.length_append, List.length_take]; omega
    · refine nil_1 (M := M) (hN _ ⟨.val (.str ls[j]), tv _, ?_⟩)
      have e1 : (acc ++ ls.take j).map D.str ++ [.str ls[j]] = (acc ++ ls.take (j + 1)).map .str := by
        rw [List.take_succ_eq_append_getElem hj, ← List.append_assoc, List.map_append (l₁ := acc ++ ls.take j)]
        rfl
      rw [e1, List.set_comm _ _ hik, List.set_set]
  · obtain ⟨v, tv, rfl⟩ := hI
    rw [List.length_map, List.take_length]
    exact h v tv
theorem app_for {b : List IS} {acc ls : List Str} (hb : b = [.app i (.var k)]) (hik : k ≠ i) (hi : ρ[i]? = some (.own (.lst (acc.map .str)))) (hk : k < ρ.length) (hl : acc.length + ls.length ≤ 900) (g : Is M e ρ (.lst (ls.map .str))) (h : ∀ v, A.nx ((ρ.set i (.own (.lst ((acc ++ ls).map .str)))).set k v)) : semS M (.for (.nm k) (.lst e) b) A ρ :=
  app_forN hb hik hi (List.getElem?_eq_getElem hk) (fun _ => True) trivial (fun _ => trivial) hl g fun v _ => h v
theorem Is.slFrL {xs : List D} {k : Nat} (g1 : Is M e1 ρ (.lst xs)) (g2 : Is M e2 ρ (.int k)) (hk : k ≤ xs.length) : Is M (.slFr e1 e2) ρ (.lst (xs.drop k)) := fun P E q => by
  simp only [semE, w2]
  refine g1 _ _ (g2 _ _ ?_)
  show P (.lst (cutD _ _ _))
  have : cutD xs (some (k : Int)) none = xs.drop k := by
    unfold cutD
    rw [HT.sIx_nat, HT.sIx_none, Nat.min_eq_left hk, List.take_of_length_le (by rw [List.length_drop]; omega)]
  rw [this]
  exact q
/-- all but the last one -/
theorem Is.slTo1 {xs : List D} (g1 : Is M e1 ρ (.lst xs)) (g2 : Is M e2 ρ (.int (-1))) : Is M (.slTo e1 e2) ρ (.lst (xs.take (xs.length - 1))) := fun P E q => by
  simp only [semE, w2]
  refine g1 _ _ (g2 _ _ ?_)
  show P (.lst (cutD _ _ _))
  have : cutD xs none (some (-1)) = xs.take (xs.length - 1) := by
    unfold cutD
    have e : HT.sIx xs.length xs.length (some (-1)) = xs.length - 1 := by
      show (if (-1 : Int) < 0 then ((-1 : Int) + (xs.length : Int)).toNat else min (-1 : Int).toNat xs.length) = _
      rw [if_pos (by decide)]
      omega
    rw [e, HT.sIx_none]
    rfl
  rw [this]
  exact q
theorem catS_assoc (a b c : Str) : a ++ b ++ c = a ++ (b ++ c) := congrArg Str.mk (Array.append_assoc ..)
theorem catS_nil (a : Str) : Str.empty ++ a = a := by
  show Str.mk (#[] ++ a.cps) = a
  rw [Array.empty_append]
theorem glue_len : ∀ (ys : List Str) (z : Array Nat), (ys.foldl (fun acc (p : Str) => acc ++ (Str.empty).cps ++ p.cps) z).size = z.size + (ys.map (·.length)).sum
  | [], z => rfl
  | y :: ys, z => by
    rw [List.foldl_cons, glue_len ys, List.map_cons, List.sum_cons, Array.size_append, Array.size_append]
    show z.size + 0 + y.length + _ = _
    omega
theorem join_len (ys : List Str) : (Txt.join Str.empty ys).length = (ys.map (·.length)).sum := by
  show (List.foldl _ _ _ : Array Nat).size = _
  cases ys with
  | nil => rfl
  | cons y ys => exact glue_len ys y.cps
end
end Tr

namespace Tr
open PySem PySem.Spec PyProof.Rows L2
/-! ### enumerate; texts taken apart -/
section
variable {M : Sm} {e e1 e2 e3 : IE} {ρ : List Slot} {A : EndsD} {x y : Str} {a b : Int}
theorem sfor_enS {g : IG} {bd : List IS} (he : Is M e ρ (.str x)) (h : forL (semG g) (semB M bd) (enD (chD x)) A ρ) : semS M (.for g (.enS e) bd) A ρ := by
  simp only [semS, sFor, semI, wEnS]
  exact he _ _ h
theorem sfor_enm {g : IG} {bd : List IS} {ds : List D} (he : Is M e ρ (.lst ds)) (h : forL (semG g) (semB M bd) (enD ds) A ρ) : semS M (.for g (.enm e) bd) A ρ := by
  simp only [semS, sFor, semI, wEnm]
  exact he _ _ h
theorem enD_at {ds : List D} {i : Nat} (h : i < (enD ds).length) : (enD ds)[i] = .tup [.int i, ds[i]'(by rwa [en_len] at h)] := by
  obtain ⟨y, e1, e2⟩ := en_get (List.getElem?_eq_getElem h)
  have hi : i < ds.length := by rwa [en_len] at h
  rw [List.getElem?_eq_getElem hi] at e1
  cases e1
  exact e2
theorem Is.splt (g1 : Is M e1 ρ (.str x)) (g2 : Is M e2 ρ (.str y)) (hy : (y.length == 0) = false) (hx : x.length ≤ 10000) : Is M (.splt e1 e2) ρ (.lst ((Txt.split x y).map .str)) := fun P E q => by
  simp only [semE, wSplt]
  exact g1 _ _ (g2 _ _ ⟨hy, hx, q⟩)
theorem Is.prtn (g1 : Is M e1 ρ (.str x)) (g2 : Is M e2 ρ (.str y)) (hy : (y.length == 0) = false) (hx : x.length ≤ 10000) : Is M (.prtn e1 e2) ρ (.tup [.str (Txt.partition x y).1, .str (Txt.partition x y).2.1, .str (Txt.partition x y).2.2]) := fun P E q => by
  simp only [semE, wPrtn]
  exact g1 _ _ (g2 _ _ ⟨hy, hx, q⟩)
theorem Is.slABS (g1 : Is M e1 ρ (.str x)) (g2 : Is M e2 ρ (.int a)) (g3 : Is M e3 ρ (.int b)) (hl : x.length ≤ 1000) : Is M (.slAB e1 e2 e3) ρ (.str (cutS x (some a) (some b))) := fun P E q => by
  simp only [semE, wSlAB]
  exact g1 _ _ (g2 _ _ (g3 _ _ ⟨Nat.le_trans hl (by decide), q⟩))
theorem cutS_nat (l : List Nat) (i j : Nat) (hi : i ≤ j) (hj : j ≤ l.length) : cutS ⟨l.toArray⟩ (some (i : Int)) (some (j : Int)) = ⟨((l.take j).drop i).toArray⟩ := by
  have e : (Str.mk l.toArray).length = l.length := by show l.toArray.size = _; simp
  show Str.mk (List.take (HT.sIx (Str.mk l.toArray).length (Str.mk l.toArray).length (some (j : Int)) - HT.sIx (Str.mk l.toArray).length 0 (some (i : Int))) (List.drop (HT.sIx (Str.mk l.toArray).length 0 (some (i : Int))) l.toArray.toList)).toArray = _
  rw [HT.sIx_nat, HT.sIx_nat, e, Nat.min_eq_left hj, Nat.min_eq_left (by omega), List.drop_take]
end
end Tr

namespace Lk50
open PySem PySem.Spec PyProof.Rows L2 Tr
def topS (i : Nat) : Stmt := PySem.Challenge.pw_armwarrant_k50_words_of_a_text.main.body.getD i (.Pass ⟨0, 0, 0, 0⟩)
def b_split_words_f0 : List IS := [.ext 1 (.call 1 [.ix (.prtn (.var 3) (.cst (.str "#"))) (.cst (.int 0)), .bin .Add (.var 2) (.cst (.int 1))])]
def b_split_words : List IS := [.new 1 (.lst []), .for (.tup [.nm 2, .nm 3]) (.enm (.splt (.var 0) (.cst (.str "\n")))) b_split_words_f0, .frz 1, .ret (.var 1)]
def d_split_words : FD := ⟨"split_words", "split_words", (topS 1), ["text", "words", "at", "row"], 1, b_split_words, false, false⟩
def b__words_of_row_f0 : List IS := [.iff (.cmp .In (.var 5) (.cst (.str " 	{}"))) [.iff (.cmp .Lt (.var 3) (.var 4)) [.app 2 (.tup [.slAB (.var 0) (.var 3) (.var 4), .var 1, .bin .Add (.var 3) (.cst (.int 1))])] [], .iff (.cmp .In (.var 5) (.cst (.str "{}"))) [.app 2 (.tup [.var 5, .var 1, .bin .Add (.var 4) (.cst (.int 1))])] [], .set (.nm 3) (.bin .Add (.var 4) (.cst (.int 1)))] []]
def b__words_of_row : List IS := [.new 2 (.lst []), .set (.nm 3) (.cst (.int 0)), .for (.tup [.nm 4, .nm 5]) (.enS (.bin .Add (.var 0) (.cst (.str " ")))) b__words_of_row_f0, .retO 2]
def d__words_of_row : FD := ⟨"_words_of_row", "_words_of_row", (topS 2), ["row", "line", "words", "start", "at", "letter"], 2, b__words_of_row, true, false⟩
def b__law_number : List IS := [.set (.nm 2) (.cst (.int 0)), .iff (.cmp .Lt (.var 1) (.blt .len [.var 0])) [.set (.nm 2) (.ix (.var 0) (.var 1))] [], .iff (.cmp .Lt (.var 2) (.cst (.int 0))) [.set (.nm 2) (.bin .Sub (.cst (.int 1)) (.bin .Mult (.cst (.int 2)) (.var 2)))] [], .iff (.cmp .GtE (.var 2) (.cst (.int 1000000000))) [.ret (.var 2)] [], .set (.nm 3) (.bin .Mod (.blt .int [.bin .Add (.bin .Mult (.bin .Add (.var 2) (.cst (.int 17))) (.cst (.int 48271))) (.bin .Mult (.bin .Add (.var 1) (.cst (.int 3))) (.cst (.int 69621)))]) (.cst (.int 2147483647))), .set (.nm 4) (.bin .Mod (.blt .int [.bin .Add (.bin .Mult (.var 3) (.cst (.int 40692))) (.bin .Mult (.bin .Add (.var 2) (.cst (.int 5))) (.bin .Add (.var 1) (.cst (.int 11))))]) (.cst (.int 2147483399))), .ret (.bin .Add (.bin .Mult (.var 3) (.cst (.int 2147483399))) (.var 4))]
def d__law_number : FD := ⟨"_law_number", "_law_number", (topS 4), ["script", "k", "cell", "mixed", "again"], 2, b__law_number, false, false⟩
def b__law_digits_f0 : List IS := [.set (.nm 3) (.bin .Add (.bin .Mult (.var 3) (.cst (.int 4611686018427387904))) (.call 2 [.var 0, .bin .Sub (.bin .Sub (.bin .Add (.var 1) (.var 2)) (.cst (.int 1))) (.var 4)]))]
def b__law_digits : List IS := [.set (.nm 3) (.cst (.int 0)), .for (.nm 4) (.rg1 (.var 2)) b__law_digits_f0, .ret (.dig (.var 3))]
def d__law_digits : FD := ⟨"_law_digits", "_law_digits", (topS 5), ["script", "first", "count", "number", "k"], 3, b__law_digits, false, false⟩
def b__law_digit : List IS := [.set (.nm 2) (.bin .Mod (.blt .int [.ix (.var 0) (.cst (.int 0))]) (.var 1)), .digS 0 (.cst (.int 0)) (.bin .FloorDiv (.blt .int [.ix (.var 0) (.cst (.int 0))]) (.var 1)), .ret (.var 2)]
def d__law_digit : FD := ⟨"_law_digit", "_law_digit", (topS 6), ["digits", "many", "value"], 2, b__law_digit, false, false⟩
def b__law_is_integer : List IS := [.ret (.and (.isB "int" (.var 0)) (.not (.isB "bool" (.var 0))))]
def d__law_is_integer : FD := ⟨"_law_is_integer", "_law_is_integer", (topS 7), ["actual"], 1, b__law_is_integer, false, false⟩
def b__law_word_f0 : List IS := [.set (.nm 2) (.bin .Add (.var 2) (.ix (.var 1) (.call 4 [.var 0, .blt .len [.var 1]])))]
def b__law_word : List IS := [.set (.nm 1) (.cst (.str "!\"$&'()*+,-./0123456789:;<=>?@ABCDEFGHIJKLMNOPQRSTUVWXYZ[\\]^_`abcdefghijklmnopqrstuvwxyz|~")), .set (.nm 2) (.cst (.str "")), .for (.nm 3) (.rg1 (.bin .Add (.cst (.int 1)) (.call 4 [.var 0, .cst (.int 7)]))) b__law_word_f0, .ret (.var 2)]
def d__law_word : FD := ⟨"_law_word", "_law_word", (topS 8), ["digits", "chars", "word", "k"], 1, b__law_word, false, false⟩
def b__law_comment_f0 : List IS := [.set (.nm 2) (.bin .Add (.var 2) (.ix (.var 1) (.call 4 [.var 0, .blt .len [.var 1]])))]
def b__law_comment : List IS := [.set (.nm 1) (.cst (.str "#{} move	x9~!")), .set (.nm 2) (.cst (.str "#")), .for (.nm 3) (.rg1 (.call 4 [.var 0, .cst (.int 6)])) b__law_comment_f0, .ret (.bin .Add (.var 2) (.cst (.str "\n")))]
def d__law_comment : FD := ⟨"_law_comment", "_law_comment", (topS 9), ["digits", "chars", "comment", "k"], 1, b__law_comment, false, false⟩
def b__law_blanks_f0 : List IS := [.set (.nm 2) (.bin .Add (.var 2) (.ix (.cst (.str " 	")) (.call 4 [.var 0, .cst (.int 2)])))]
def b__law_blanks : List IS := [.set (.nm 2) (.cst (.str "")), .for (.nm 3) (.rg1 (.bin .Add (.var 1) (.call 4 [.var 0, .cst (.int 3)]))) b__law_blanks_f0, .ret (.var 2)]
def d__law_blanks : FD := ⟨"_law_blanks", "_law_blanks", (topS 10), ["digits", "least", "blanks", "k"], 2, b__law_blanks, false, false⟩
def b__law_build_f0 : List IS := [.set (.nm 7) (.call 3 [.var 0, .bin .Add (.var 6) (.cst (.int 1)), .cst (.int 1)]), .set (.nm 8) (.call 4 [.var 7, .cst (.int 7)]), .set (.nm 9) (.call 8 [.var 7, .blt .int [.and (.var 5) (.cmp .Lt (.var 8) (.cst (.int 3)))]]), .set (.nm 1) (.bin .Add (.var 1) (.var 9)), .set (.nm 4) (.bin .Add (.var 4) (.blt .len [.var 9])), .set (.nm 5) (.cmp .Lt (.var 8) (.cst (.int 3))), .iff (.cmp .Lt (.var 8) (.cst (.int 5))) [.set (.nm 10) (.ix (.lst [.cst (.str ""), .cst (.str ""), .cst (.str ""), .cst (.str "{"), .cst (.str "}")]) (.var 8)), .iff (.cmp .Lt (.var 8) (.cst (.int 3))) [.set (.nm 10) (.call 6 [.var 7])] [], .app 2 (.tup [.var 10, .var 3, .var 4]), .set (.nm 1) (.bin .Add (.var 1) (.var 10)), .set (.nm 4) (.bin .Add (.var 4) (.blt .len [.var 10]))] [.set (.nm 10) (.cst (.str "\n")), .iff (.cmp .Eq (.var 8) (.cst (.int 6))) [.set (.nm 10) (.call 7 [.var 7])] [], .set (.nm 1) (.bin .Add (.var 1) (.var 10)), .set (.nm 3) (.bin .Add (.var 3) (.cst (.int 1))), .set (.nm 4) (.cst (.int 1))]]
def b__law_build : List IS := [.set (.nm 1) (.cst (.str "")), .new 2 (.lst []), .set (.nm 3) (.cst (.int 1)), .set (.nm 4) (.cst (.int 1)), .set (.nm 5) (.cst (.bl false)), .for (.nm 6) (.rg1 (.bin .Mod (.call 2 [.var 0, .cst (.int 0)]) (.cst (.int 40)))) b__law_build_f0, .frz 2, .ret (.tup [.var 1, .var 2])]
def d__law_build : FD := ⟨"_law_build", "_law_build", (topS 11), ["script", "text", "due", "line", "column", "after_word", "k", "digits", "kind", "blanks", "piece"], 1, b__law_build, false, false⟩
def b_law_f0 : List IS := [.iff (.or (.not (.val (.isB "tuple" (.ix (.var 3) (.var 4))))) (.cmp .NotEq (.ix (.var 3) (.var 4)) (.ix (.var 2) (.var 4)))) [.ret (.cst (.bl false))] [], .iff (.or (.not (.val (.call 5 [.ix (.ix (.var 3) (.var 4)) (.cst (.int 1))]))) (.not (.val (.call 5 [.ix (.ix (.var 3) (.var 4)) (.cst (.int 2))])))) [.ret (.cst (.bl false))] []]
def b_law : List IS := [.set (.tup [.nm 1, .nm 2]) (.call 9 [.var 0]), .set (.nm 3) (.call 0 [.var 1]), .iff (.or (.not (.val (.isB "list" (.var 3)))) (.cmp .NotEq (.blt .len [.var 3]) (.blt .len [.var 2]))) [.ret (.cst (.bl false))] [], .for (.nm 4) (.rg1 (.blt .len [.var 2])) b_law_f0, .ret (.cst (.bl true))]
def d_law : FD := ⟨"law", "law", (topS 12), ["script", "text", "due", "actual", "k"], 1, b_law, false, false⟩
def sig : Sig := ⟨[], fun i j => [].contains (i, j)⟩
def xs : XSig := ⟨[], fun i j => [].contains (i, j)⟩
def xrT : List (Str × (Nat × Nat)) := []
def mtT : List ((Nat × Nat) × Nat) := []
def ptT : List ((Nat × Nat) × Nat) := []
def shps : List Shp := []
def shfs : List Shp := []
def p : Pg := ⟨[d_split_words, d__words_of_row, d__law_number, d__law_digits, d__law_digit, d__law_is_integer, d__law_word, d__law_comment, d__law_blanks, d__law_build, d_law], [], fun k i => mtT.lookup (k, i), sig, shps, shfs, xs, fun _ _ => none, fun k i => ptT.lookup (k, i)⟩
def mids : List Str := []
def fnT : List (Str × Nat) := [(("split_words" : Str), 0), (("_words_of_row" : Str), 1), (("_law_number" : Str), 2), (("_law_digits" : Str), 3), (("_law_digit" : Str), 4), (("_law_is_integer" : Str), 5), (("_law_word" : Str), 6), (("_law_comment" : Str), 7), (("_law_blanks" : Str), 8), (("_law_build" : Str), 9), (("law" : Str), 10)]
def fnKT : List (Str × Nat) := []
def maT : List (Str × Nat) := []
def maKT : List (Str × Nat) := []
def clT : List (Str × Nat) := []
def conT : List (Str × D) := []
def blts : List Str := ["bool", "enumerate", "int", "isinstance", "len", "list", "range", "tuple"]
def libs : List Str := []
def owL : List Nat := [1]
def m : Nm := ⟨fun x => fnT.lookup x, fun x => maT.lookup x, fun x => clT.lookup x, fun x => conT.lookup x, mkNm mids, blts, libs, fun x => maKT.lookup x, fun s => shps[s]?, fun x => fnKT.lookup x, fun s => shfs[s]?, fun x => xrT.lookup x, fun f => owL.contains f⟩
theorem ok_split_words : d_split_words.ok m = true := by decide +kernel
theorem ok__words_of_row : d__words_of_row.ok m = true := by decide +kernel
theorem ok__law_number : d__law_number.ok m = true := by decide +kernel
theorem ok__law_digits : d__law_digits.ok m = true := by decide +kernel
theorem ok__law_digit : d__law_digit.ok m = true := by decide +kernel
theorem ok__law_is_integer : d__law_is_integer.ok m = true := by decide +kernel
theorem ok__law_word : d__law_word.ok m = true := by decide +kernel
theorem ok__law_comment : d__law_comment.ok m = true := by decide +kernel
theorem ok__law_blanks : d__law_blanks.ok m = true := by decide +kernel
theorem ok__law_build : d__law_build.ok m = true := by decide +kernel
theorem ok_law : d_law.ok m = true := by decide +kernel
theorem call_split_words (n : Nat) : (p.sm (n + 2)).sem 0 = wF 1 4 (semB (p.sm (n + 1)) b_split_words) := by rw [p.sm_sem]; rfl
theorem call__words_of_row (n : Nat) : (p.sm (n + 2)).sem 1 = fun ds P E => wFO 2 6 (semB (p.sm (n + 1)) b__words_of_row) ds (fun r => P (.lst r)) E := by rw [p.sm_sem]; rfl
theorem call__law_number (n : Nat) : (p.sm (n + 2)).sem 2 = wF 2 5 (semB (p.sm (n + 1)) b__law_number) := by rw [p.sm_sem]; rfl
theorem call__law_digits (n : Nat) : (p.sm (n + 2)).sem 3 = wF 3 5 (semB (p.sm (n + 1)) b__law_digits) := by rw [p.sm_sem]; rfl
theorem call__law_digit (n : Nat) : (p.sm (n + 2)).sem 4 = wF 2 3 (semB (p.sm (n + 1)) b__law_digit) := by rw [p.sm_sem]; rfl
theorem call__law_is_integer (n : Nat) : (p.sm (n + 2)).sem 5 = wF 1 1 (semB (p.sm (n + 1)) b__law_is_integer) := by rw [p.sm_sem]; rfl
theorem call__law_word (n : Nat) : (p.sm (n + 2)).sem 6 = wF 1 4 (semB (p.sm (n + 1)) b__law_word) := by rw [p.sm_sem]; rfl
theorem call__law_comment (n : Nat) : (p.sm (n + 2)).sem 7 = wF 1 4 (semB (p.sm (n + 1)) b__law_comment) := by rw [p.sm_sem]; rfl
theorem call__law_blanks (n : Nat) : (p.sm (n + 2)).sem 8 = wF 2 4 (semB (p.sm (n + 1)) b__law_blanks) := by rw [p.sm_sem]; rfl
theorem call__law_build (n : Nat) : (p.sm (n + 2)).sem 9 = wF 1 11 (semB (p.sm (n + 1)) b__law_build) := by rw [p.sm_sem]; rfl
theorem call_law (n : Nat) : (p.sm (n + 2)).sem 10 = wF 1 5 (semB (p.sm (n + 1)) b_law) := by rw [p.sm_sem]; rfl
section
variable {P : Program} {w : World} {K : PySem.W.Frag} {mg : Str → Option Value} {base : Heap}
set_option maxHeartbeats 4000000 in
theorem pg_ok {h : Heap} (X : K.In h) (G : h.Ns mainGlobals mg)
    (f_split_words : Addr) {od_split_words an_split_words : Option Addr} {sl_split_words : Array (Option Value)} {oc_split_words kV_split_words dc_split_words pm_split_words cd_split_words ct_split_words : Value}
    (f__words_of_row : Addr) {od__words_of_row an__words_of_row : Option Addr} {sl__words_of_row : Array (Option Value)} {oc__words_of_row kV__words_of_row dc__words_of_row pm__words_of_row cd__words_of_row ct__words_of_row : Value}
    (f__law_number : Addr) {od__law_number an__law_number : Option Addr} {sl__law_number : Array (Option Value)} {oc__law_number kV__law_number dc__law_number pm__law_number cd__law_number ct__law_number : Value}
    (f__law_digits : Addr) {od__law_digits an__law_digits : Option Addr} {sl__law_digits : Array (Option Value)} {oc__law_digits kV__law_digits dc__law_digits pm__law_digits cd__law_digits ct__law_digits : Value}
    (f__law_digit : Addr) {od__law_digit an__law_digit : Option Addr} {sl__law_digit : Array (Option Value)} {oc__law_digit kV__law_digit dc__law_digit pm__law_digit cd__law_digit ct__law_digit : Value}
    (f__law_is_integer : Addr) {od__law_is_integer an__law_is_integer : Option Addr} {sl__law_is_integer : Array (Option Value)} {oc__law_is_integer kV__law_is_integer dc__law_is_integer pm__law_is_integer cd__law_is_integer ct__law_is_integer : Value}
    (f__law_word : Addr) {od__law_word an__law_word : Option Addr} {sl__law_word : Array (Option Value)} {oc__law_word kV__law_word dc__law_word pm__law_word cd__law_word ct__law_word : Value}
    (f__law_comment : Addr) {od__law_comment an__law_comment : Option Addr} {sl__law_comment : Array (Option Value)} {oc__law_comment kV__law_comment dc__law_comment pm__law_comment cd__law_comment ct__law_comment : Value}
    (f__law_blanks : Addr) {od__law_blanks an__law_blanks : Option Addr} {sl__law_blanks : Array (Option Value)} {oc__law_blanks kV__law_blanks dc__law_blanks pm__law_blanks cd__law_blanks ct__law_blanks : Value}
    (f__law_build : Addr) {od__law_build an__law_build : Option Addr} {sl__law_build : Array (Option Value)} {oc__law_build kV__law_build dc__law_build pm__law_build cd__law_build ct__law_build : Value}
    (f_law : Addr) {od_law an_law : Option Addr} {sl_law : Array (Option Value)} {oc_law kV_law dc_law pm_law cd_law ct_law : Value}
    (a_split_words : PySem.W.nsIn K mainGlobals "split_words" = some (some (.ref f_split_words)))
    (l_split_words : K.lookup f_split_words = some ⟨oc_split_words, od_split_words, .func (PySem.W.fnOf "split_words" "split_words" (defArgs d_split_words.st) (defBody d_split_words.st) (defScope d_split_words.st) .none kV_split_words dc_split_words pm_split_words an_split_words cd_split_words ct_split_words), sl_split_words⟩)
    (c_split_words : PySem.W.codeIn K cd_split_words "split_words" = true)
    (k_split_words : PySem.W.keepIn K (.ref f_split_words) = true)
    (a__words_of_row : PySem.W.nsIn K mainGlobals "_words_of_row" = some (some (.ref f__words_of_row)))
    (l__words_of_row : K.lookup f__words_of_row = some ⟨oc__words_of_row, od__words_of_row, .func (PySem.W.fnOf "_words_of_row" "_words_of_row" (defArgs d__words_of_row.st) (defBody d__words_of_row.st) (defScope d__words_of_row.st) .none kV__words_of_row dc__words_of_row pm__words_of_row an__words_of_row cd__words_of_row ct__words_of_row), sl__words_of_row⟩)
    (c__words_of_row : PySem.W.codeIn K cd__words_of_row "_words_of_row" = true)
    (k__words_of_row : PySem.W.keepIn K (.ref f__words_of_row) = true)
    (a__law_number : PySem.W.nsIn K mainGlobals "_law_number" = some (some (.ref f__law_number)))
    (l__law_number : K.lookup f__law_number = some ⟨oc__law_number, od__law_number, .func (PySem.W.fnOf "_law_number" "_law_number" (defArgs d__law_number.st) (defBody d__law_number.st) (defScope d__law_number.st) .none kV__law_number dc__law_number pm__law_number an__law_number cd__law_number ct__law_number), sl__law_number⟩)
    (c__law_number : PySem.W.codeIn K cd__law_number "_law_number" = true)
    (k__law_number : PySem.W.keepIn K (.ref f__law_number) = true)
    (a__law_digits : PySem.W.nsIn K mainGlobals "_law_digits" = some (some (.ref f__law_digits)))
    (l__law_digits : K.lookup f__law_digits = some ⟨oc__law_digits, od__law_digits, .func (PySem.W.fnOf "_law_digits" "_law_digits" (defArgs d__law_digits.st) (defBody d__law_digits.st) (defScope d__law_digits.st) .none kV__law_digits dc__law_digits pm__law_digits an__law_digits cd__law_digits ct__law_digits), sl__law_digits⟩)
    (c__law_digits : PySem.W.codeIn K cd__law_digits "_law_digits" = true)
    (k__law_digits : PySem.W.keepIn K (.ref f__law_digits) = true)
    (a__law_digit : PySem.W.nsIn K mainGlobals "_law_digit" = some (some (.ref f__law_digit)))
    (l__law_digit : K.lookup f__law_digit = some ⟨oc__law_digit, od__law_digit, .func (PySem.W.fnOf "_law_digit" "_law_digit" (defArgs d__law_digit.st) (defBody d__law_digit.st) (defScope d__law_digit.st) .none kV__law_digit dc__law_digit pm__law_digit an__law_digit cd__law_digit ct__law_digit), sl__law_digit⟩)
    (c__law_digit : PySem.W.codeIn K cd__law_digit "_law_digit" = true)
    (k__law_digit : PySem.W.keepIn K (.ref f__law_digit) = true)
    (a__law_is_integer : PySem.W.nsIn K mainGlobals "_law_is_integer" = some (some (.ref f__law_is_integer)))
    (l__law_is_integer : K.lookup f__law_is_integer = some ⟨oc__law_is_integer, od__law_is_integer, .func (PySem.W.fnOf "_law_is_integer" "_law_is_integer" (defArgs d__law_is_integer.st) (defBody d__law_is_integer.st) (defScope d__law_is_integer.st) .none kV__law_is_integer dc__law_is_integer pm__law_is_integer an__law_is_integer cd__law_is_integer ct__law_is_integer), sl__law_is_integer⟩)
    (c__law_is_integer : PySem.W.codeIn K cd__law_is_integer "_law_is_integer" = true)
    (k__law_is_integer : PySem.W.keepIn K (.ref f__law_is_integer) = true)
    (a__law_word : PySem.W.nsIn K mainGlobals "_law_word" = some (some (.ref f__law_word)))
    (l__law_word : K.lookup f__law_word = some ⟨oc__law_word, od__law_word, .func (PySem.W.fnOf "_law_word" "_law_word" (defArgs d__law_word.st) (defBody d__law_word.st) (defScope d__law_word.st) .none kV__law_word dc__law_word pm__law_word an__law_word cd__law_word ct__law_word), sl__law_word⟩)
    (c__law_word : PySem.W.codeIn K cd__law_word "_law_word" = true)
    (k__law_word : PySem.W.keepIn K (.ref f__law_word) = true)
    (a__law_comment : PySem.W.nsIn K mainGlobals "_law_comment" = some (some (.ref f__law_comment)))
    (l__law_comment : K.lookup f__law_comment = some ⟨oc__law_comment, od__law_comment, .func (PySem.W.fnOf "_law_comment" "_law_comment" (defArgs d__law_comment.st) (defBody d__law_comment.st) (defScope d__law_comment.st) .none kV__law_comment dc__law_comment pm__law_comment an__law_comment cd__law_comment ct__law_comment), sl__law_comment⟩)
    (c__law_comment : PySem.W.codeIn K cd__law_comment "_law_comment" = true)
    (k__law_comment : PySem.W.keepIn K (.ref f__law_comment) = true)
    (a__law_blanks : PySem.W.nsIn K mainGlobals "_law_blanks" = some (some (.ref f__law_blanks)))
    (l__law_blanks : K.lookup f__law_blanks = some ⟨oc__law_blanks, od__law_blanks, .func (PySem.W.fnOf "_law_blanks" "_law_blanks" (defArgs d__law_blanks.st) (defBody d__law_blanks.st) (defScope d__law_blanks.st) .none kV__law_blanks dc__law_blanks pm__law_blanks an__law_blanks cd__law_blanks ct__law_blanks), sl__law_blanks⟩)
    (c__law_blanks : PySem.W.codeIn K cd__law_blanks "_law_blanks" = true)
    (k__law_blanks : PySem.W.keepIn K (.ref f__law_blanks) = true)
    (a__law_build : PySem.W.nsIn K mainGlobals "_law_build" = some (some (.ref f__law_build)))
    (l__law_build : K.lookup f__law_build = some ⟨oc__law_build, od__law_build, .func (PySem.W.fnOf "_law_build" "_law_build" (defArgs d__law_build.st) (defBody d__law_build.st) (defScope d__law_build.st) .none kV__law_build dc__law_build pm__law_build an__law_build cd__law_build ct__law_build), sl__law_build⟩)
    (c__law_build : PySem.W.codeIn K cd__law_build "_law_build" = true)
    (k__law_build : PySem.W.keepIn K (.ref f__law_build) = true)
    (a_law : PySem.W.nsIn K mainGlobals "law" = some (some (.ref f_law)))
    (l_law : K.lookup f_law = some ⟨oc_law, od_law, .func (PySem.W.fnOf "law" "law" (defArgs d_law.st) (defBody d_law.st) (defScope d_law.st) .none kV_law dc_law pm_law an_law cd_law ct_law), sl_law⟩)
    (c_law : PySem.W.codeIn K cd_law "law" = true)
    (k_law : PySem.W.keepIn K (.ref f_law) = true)
    (hn : PySem.W.specialIn K (.builtin "object.__class__") "__get__" = some (some (.builtin "getset_descriptor.__get__")))
    (htk : PySem.W.takesIn K (.builtin "object.__class__") = some true)
    (z_bool : PySem.W.nsIn K mainGlobals "bool" = some none)
    (z_enumerate : PySem.W.nsIn K mainGlobals "enumerate" = some none)
    (z_int : PySem.W.nsIn K mainGlobals "int" = some none)
    (z_isinstance : PySem.W.nsIn K mainGlobals "isinstance" = some none)
    (z_len : PySem.W.nsIn K mainGlobals "len" = some none)
    (z_list : PySem.W.nsIn K mainGlobals "list" = some none)
    (z_range : PySem.W.nsIn K mainGlobals "range" = some none)
    (z_tuple : PySem.W.nsIn K mainGlobals "tuple" = some none) :
    PgOk P p m K ⟨fun k => [].getD k 0, mkNm mids, fun _ _ => none, [], fun _ => "", P, w⟩ mg (fun f => [f_split_words, f__words_of_row, f__law_number, f__law_digits, f__law_digit, f__law_is_integer, f__law_word, f__law_comment, f__law_blanks, f__law_build, f_law].getD f 0) (fun k => [].getD k 0) (fun f => match f with | 0 => PySem.W.fnOf "split_words" "split_words" (defArgs d_split_words.st) (defBody d_split_words.st) (defScope d_split_words.st) .none kV_split_words dc_split_words pm_split_words an_split_words cd_split_words ct_split_words | 1 => PySem.W.fnOf "_words_of_row" "_words_of_row" (defArgs d__words_of_row.st) (defBody d__words_of_row.st) (defScope d__words_of_row.st) .none kV__words_of_row dc__words_of_row pm__words_of_row an__words_of_row cd__words_of_row ct__words_of_row | 2 => PySem.W.fnOf "_law_number" "_law_number" (defArgs d__law_number.st) (defBody d__law_number.st) (defScope d__law_number.st) .none kV__law_number dc__law_number pm__law_number an__law_number cd__law_number ct__law_number | 3 => PySem.W.fnOf "_law_digits" "_law_digits" (defArgs d__law_digits.st) (defBody d__law_digits.st) (defScope d__law_digits.st) .none kV__law_digits dc__law_digits pm__law_digits an__law_digits cd__law_digits ct__law_digits | 4 => PySem.W.fnOf "_law_digit" "_law_digit" (defArgs d__law_digit.st) (defBody d__law_digit.st) (defScope d__law_digit.st) .none kV__law_digit dc__law_digit pm__law_digit an__law_digit cd__law_digit ct__law_digit | 5 => PySem.W.fnOf "_law_is_integer" "_law_is_integer" (defArgs d__law_is_integer.st) (defBody d__law_is_integer.st) (defScope d__law_is_integer.st) .none kV__law_is_integer dc__law_is_integer pm__law_is_integer an__law_is_integer cd__law_is_integer ct__law_is_integer | 6 => PySem.W.fnOf "_law_word" "_law_word" (defArgs d__law_word.st) (defBody d__law_word.st) (defScope d__law_word.st) .none kV__law_word dc__law_word pm__law_word an__law_word cd__law_word ct__law_word | 7 => PySem.W.fnOf "_law_comment" "_law_comment" (defArgs d__law_comment.st) (defBody d__law_comment.st) (defScope d__law_comment.st) .none kV__law_comment dc__law_comment pm__law_comment an__law_comment cd__law_comment ct__law_comment | 8 => PySem.W.fnOf "_law_blanks" "_law_blanks" (defArgs d__law_blanks.st) (defBody d__law_blanks.st) (defScope d__law_blanks.st) .none kV__law_blanks dc__law_blanks pm__law_blanks an__law_blanks cd__law_blanks ct__law_blanks | 9 => PySem.W.fnOf "_law_build" "_law_build" (defArgs d__law_build.st) (defBody d__law_build.st) (defScope d__law_build.st) .none kV__law_build dc__law_build pm__law_build an__law_build cd__law_build ct__law_build | _ => PySem.W.fnOf "law" "law" (defArgs d_law.st) (defBody d_law.st) (defScope d_law.st) .none kV_law dc_law pm_law an_law cd_law ct_law) (fun _ => PySem.W.fnOf "split_words" "split_words" (defArgs d_split_words.st) (defBody d_split_words.st) (defScope d_split_words.st) .none kV_split_words dc_split_words pm_split_words an_split_words cd_split_words ct_split_words) := by
  have A_split_words := funA_mk (st := d_split_words.st) l_split_words c_split_words k_split_words
  have F_split_words := fun_mk (st := d_split_words.st) l_split_words c_split_words k_split_words
  have b_split_words := F_split_words.binds (ps := ["text"]) fun _ _ _ _ _ _ us hl => match us, hl with | [_], _ => rfl
  have A__words_of_row := funA_mk (st := d__words_of_row.st) l__words_of_row c__words_of_row k__words_of_row
  have F__words_of_row := fun_mk (st := d__words_of_row.st) l__words_of_row c__words_of_row k__words_of_row
  have b__words_of_row := F__words_of_row.binds (ps := ["row", "line"]) fun _ _ _ _ _ _ us hl => match us, hl with | [_, _], _ => rfl
  have A__law_number := funA_mk (st := d__law_number.st) l__law_number c__law_number k__law_number
  have F__law_number := fun_mk (st := d__law_number.st) l__law_number c__law_number k__law_number
  have b__law_number := F__law_number.binds (ps := ["script", "k"]) fun _ _ _ _ _ _ us hl => match us, hl with | [_, _], _ => rfl
  have A__law_digits := funA_mk (st := d__law_digits.st) l__law_digits c__law_digits k__law_digits
  have F__law_digits := fun_mk (st := d__law_digits.st) l__law_digits c__law_digits k__law_digits
  have b__law_digits := F__law_digits.binds (ps := ["script", "first", "count"]) fun _ _ _ _ _ _ us hl => match us, hl with | [_, _, _], _ => rfl
  have A__law_digit := funA_mk (st := d__law_digit.st) l__law_digit c__law_digit k__law_digit
  have F__law_digit := fun_mk (st := d__law_digit.st) l__law_digit c__law_digit k__law_digit
  have b__law_digit := F__law_digit.binds (ps := ["digits", "many"]) fun _ _ _ _ _ _ us hl => match us, hl with | [_, _], _ => rfl
  have A__law_is_integer := funA_mk (st := d__law_is_integer.st) l__law_is_integer c__law_is_integer k__law_is_integer
  have F__law_is_integer := fun_mk (st := d__law_is_integer.st) l__law_is_integer c__law_is_integer k__law_is_integer
  have b__law_is_integer := F__law_is_integer.binds (ps := ["actual"]) fun _ _ _ _ _ _ us hl => match us, hl with | [_], _ => rfl
  have A__law_word := funA_mk (st := d__law_word.st) l__law_word c__law_word k__law_word
  have F__law_word := fun_mk (st := d__law_word.st) l__law_word c__law_word k__law_word
  have b__law_word := F__law_word.binds (ps := ["digits"]) fun _ _ _ _ _ _ us hl => match us, hl with | [_], _ => rfl
  have A__law_comment := funA_mk (st := d__law_comment.st) l__law_comment c__law_comment k__law_comment
  have F__law_comment := fun_mk (st := d__law_comment.st) l__law_comment c__law_comment k__law_comment
  have b__law_comment := F__law_comment.binds (ps := ["digits"]) fun _ _ _ _ _ _ us hl => match us, hl with | [_], _ => rfl
  have A__law_blanks := funA_mk (st := d__law_blanks.st) l__law_blanks c__law_blanks k__law_blanks
  have F__law_blanks := fun_mk (st := d__law_blanks.st) l__law_blanks c__law_blanks k__law_blanks
  have b__law_blanks := F__law_blanks.binds (ps := ["digits", "least"]) fun _ _ _ _ _ _ us hl => match us, hl with | [_, _], _ => rfl
  have A__law_build := funA_mk (st := d__law_build.st) l__law_build c__law_build k__law_build
  have F__law_build := fun_mk (st := d__law_build.st) l__law_build c__law_build k__law_build
  have b__law_build := F__law_build.binds (ps := ["script"]) fun _ _ _ _ _ _ us hl => match us, hl with | [_], _ => rfl
  have A_law := funA_mk (st := d_law.st) l_law c_law k_law
  have F_law := fun_mk (st := d_law.st) l_law c_law k_law
  have b_law := F_law.binds (ps := ["script"]) fun _ _ _ _ _ _ us hl => match us, hl with | [_], _ => rfl
  refine {
    fn := AllIx.go ⟨⟨A_split_words, ok_split_words⟩, ⟨A__words_of_row, ok__words_of_row⟩, ⟨A__law_number, ok__law_number⟩, ⟨A__law_digits, ok__law_digits⟩, ⟨A__law_digit, ok__law_digit⟩, ⟨A__law_is_integer, ok__law_is_integer⟩, ⟨A__law_word, ok__law_word⟩, ⟨A__law_comment, ok__law_comment⟩, ⟨A__law_blanks, ok__law_blanks⟩, ⟨A__law_build, ok__law_build⟩, ⟨A_law, ok_law⟩, trivial⟩
    ini := AllIx.go' trivial
    fnN := AllP.go (T := fnT) ⟨⟨PySem.W.mg_of X G a_split_words, _, rfl, b_split_words⟩, ⟨PySem.W.mg_of X G a__words_of_row, _, rfl, b__words_of_row⟩, ⟨PySem.W.mg_of X G a__law_number, _, rfl, b__law_number⟩, ⟨PySem.W.mg_of X G a__law_digits, _, rfl, b__law_digits⟩, ⟨PySem.W.mg_of X G a__law_digit, _, rfl, b__law_digit⟩, ⟨PySem.W.mg_of X G a__law_is_integer, _, rfl, b__law_is_integer⟩, ⟨PySem.W.mg_of X G a__law_word, _, rfl, b__law_word⟩, ⟨PySem.W.mg_of X G a__law_comment, _, rfl, b__law_comment⟩, ⟨PySem.W.mg_of X G a__law_blanks, _, rfl, b__law_blanks⟩, ⟨PySem.W.mg_of X G a__law_build, _, rfl, b__law_build⟩, ⟨PySem.W.mg_of X G a_law, _, rfl, b_law⟩, trivial⟩
    fnK := AllP.go (T := fnKT) trivial
    shfq := rfl
    shfk := AllIx.go0 (l := shfs) trivial
    maN := AllP.go (T := maT) trivial
    maK := AllP.go (T := maKT) trivial
    shpq := rfl
    shpk := AllIx.go0 (l := shps) trivial
    clN := AllP.go (T := clT) trivial
    mt := fun k i f e => AllP.go (T := mtT) (Q := fun (z : Nat × Nat) (f : Nat) => z.1 < p.sig.fld.length ∧ Meth K ((fun k => [].getD k 0) z.1) (mkNm mids z.2) ((fun f => [f_split_words, f__words_of_row, f__law_number, f__law_digits, f__law_digit, f__law_is_integer, f__law_word, f__law_comment, f__law_blanks, f__law_build, f_law].getD f 0) f) ∧ ∃ d, p.fns[f]? = some d ∧ Binds K ((fun f => match f with | 0 => PySem.W.fnOf "split_words" "split_words" (defArgs d_split_words.st) (defBody d_split_words.st) (defScope d_split_words.st) .none kV_split_words dc_split_words pm_split_words an_split_words cd_split_words ct_split_words | 1 => PySem.W.fnOf "_words_of_row" "_words_of_row" (defArgs d__words_of_row.st) (defBody d__words_of_row.st) (defScope d__words_of_row.st) .none kV__words_of_row dc__words_of_row pm__words_of_row an__words_of_row cd__words_of_row ct__words_of_row | 2 => PySem.W.fnOf "_law_number" "_law_number" (defArgs d__law_number.st) (defBody d__law_number.st) (defScope d__law_number.st) .none kV__law_number dc__law_number pm__law_number an__law_number cd__law_number ct__law_number | 3 => PySem.W.fnOf "_law_digits" "_law_digits" (defArgs d__law_digits.st) (defBody d__law_digits.st) (defScope d__law_digits.st) .none kV__law_digits dc__law_digits pm__law_digits an__law_digits cd__law_digits ct__law_digits | 4 => PySem.W.fnOf "_law_digit" "_law_digit" (defArgs d__law_digit.st) (defBody d__law_digit.st) (defScope d__law_digit.st) .none kV__law_digit dc__law_digit pm__law_digit an__law_digit cd__law_digit ct__law_digit | 5 => PySem.W.fnOf "_law_is_integer" "_law_is_integer" (defArgs d__law_is_integer.st) (defBody d__law_is_integer.st) (defScope d__law_is_integer.st) .none kV__law_is_integer dc__law_is_integer pm__law_is_integer an__law_is_integer cd__law_is_integer ct__law_is_integer | 6 => PySem.W.fnOf "_law_word" "_law_word" (defArgs d__law_word.st) (defBody d__law_word.st) (defScope d__law_word.st) .none kV__law_word dc__law_word pm__law_word an__law_word cd__law_word ct__law_word | 7 => PySem.W.fnOf "_law_comment" "_law_comment" (defArgs d__law_comment.st) (defBody d__law_comment.st) (defScope d__law_comment.st) .none kV__law_comment dc__law_comment pm__law_comment an__law_comment cd__law_comment ct__law_comment | 8 => PySem.W.fnOf "_law_blanks" "_law_blanks" (defArgs d__law_blanks.st) (defBody d__law_blanks.st) (defScope d__law_blanks.st) .none kV__law_blanks dc__law_blanks pm__law_blanks an__law_blanks cd__law_blanks ct__law_blanks | 9 => PySem.W.fnOf "_law_build" "_law_build" (defArgs d__law_build.st) (defBody d__law_build.st) (defScope d__law_build.st) .none kV__law_build dc__law_build pm__law_build an__law_build cd__law_build ct__law_build | _ => PySem.W.fnOf "law" "law" (defArgs d_law.st) (defBody d_law.st) (defScope d_law.st) .none kV_law dc_law pm_law an_law cd_law ct_law) f) d.ps []) trivial (k, i) f e
    pt := fun k i f e => AllP.go (T := ptT) (Q := fun (z : Nat × Nat) (f : Nat) => z.1 < p.sig.fld.length ∧ (∃ pp, PropOf K ((fun k => [].getD k 0) z.1) (mkNm mids z.2) pp ((fun f => [f_split_words, f__words_of_row, f__law_number, f__law_digits, f__law_digit, f__law_is_integer, f__law_word, f__law_comment, f__law_blanks, f__law_build, f_law].getD f 0) f)) ∧ ∃ d, p.fns[f]? = some d ∧ Binds K ((fun f => match f with | 0 => PySem.W.fnOf "split_words" "split_words" (defArgs d_split_words.st) (defBody d_split_words.st) (defScope d_split_words.st) .none kV_split_words dc_split_words pm_split_words an_split_words cd_split_words ct_split_words | 1 => PySem.W.fnOf "_words_of_row" "_words_of_row" (defArgs d__words_of_row.st) (defBody d__words_of_row.st) (defScope d__words_of_row.st) .none kV__words_of_row dc__words_of_row pm__words_of_row an__words_of_row cd__words_of_row ct__words_of_row | 2 => PySem.W.fnOf "_law_number" "_law_number" (defArgs d__law_number.st) (defBody d__law_number.st) (defScope d__law_number.st) .none kV__law_number dc__law_number pm__law_number an__law_number cd__law_number ct__law_number | 3 => PySem.W.fnOf "_law_digits" "_law_digits" (defArgs d__law_digits.st) (defBody d__law_digits.st) (defScope d__law_digits.st) .none kV__law_digits dc__law_digits pm__law_digits an__law_digits cd__law_digits ct__law_digits | 4 => PySem.W.fnOf "_law_digit" "_law_digit" (defArgs d__law_digit.st) (defBody d__law_digit.st) (defScope d__law_digit.st) .none kV__law_digit dc__law_digit pm__law_digit an__law_digit cd__law_digit ct__law_digit | 5 => PySem.W.fnOf "_law_is_integer" "_law_is_integer" (defArgs d__law_is_integer.st) (defBody d__law_is_integer.st) (defScope d__law_is_integer.st) .none kV__law_is_integer dc__law_is_integer pm__law_is_integer an__law_is_integer cd__law_is_integer ct__law_is_integer | 6 => PySem.W.fnOf "_law_word" "_law_word" (defArgs d__law_word.st) (defBody d__law_word.st) (defScope d__law_word.st) .none kV__law_word dc__law_word pm__law_word an__law_word cd__law_word ct__law_word | 7 => PySem.W.fnOf "_law_comment" "_law_comment" (defArgs d__law_comment.st) (defBody d__law_comment.st) (defScope d__law_comment.st) .none kV__law_comment dc__law_comment pm__law_comment an__law_comment cd__law_comment ct__law_comment | 8 => PySem.W.fnOf "_law_blanks" "_law_blanks" (defArgs d__law_blanks.st) (defBody d__law_blanks.st) (defScope d__law_blanks.st) .none kV__law_blanks dc__law_blanks pm__law_blanks an__law_blanks cd__law_blanks ct__law_blanks | 9 => PySem.W.fnOf "_law_build" "_law_build" (defArgs d__law_build.st) (defBody d__law_build.st) (defScope d__law_build.st) .none kV__law_build dc__law_build pm__law_build an__law_build cd__law_build ct__law_build | _ => PySem.W.fnOf "law" "law" (defArgs d_law.st) (defBody d_law.st) (defScope d_law.st) .none kV_law dc_law pm_law an_law cd_law ct_law) f) d.ps []) trivial (k, i) f e
    kok := KOk.none (mkNm_inj (l := mids) (by decide +kernel)) rfl hn htk
    mid := fun _ => rfl
    mem := rfl
    pr := rfl
    con := AllP.go (T := conT) trivial
    blt := AllS.go (l := blts) ⟨PySem.W.mg_none_of X G z_bool, PySem.W.mg_none_of X G z_enumerate, PySem.W.mg_none_of X G z_int, PySem.W.mg_none_of X G z_isinstance, PySem.W.mg_none_of X G z_len, PySem.W.mg_none_of X G z_list, PySem.W.mg_none_of X G z_range, PySem.W.mg_none_of X G z_tuple, trivial⟩
    libq := fun _ => by cases ‹libs.contains _ = true›
    libg := fun _ => by cases ‹libs.contains _ = true›
    xok := { hn := hn, htk := htk
             ga := AllL.go (l := xs.cls) trivial
             gg := AllL.go (l := xs.cls) trivial
             exC := AllL.go (l := xs.cls) trivial
             hdC := AllL.go (l := xs.cls) trivial
             ha := AllL.go (l := xs.cls) trivial
             hm := AllL.go (l := xs.cls) trivial
             ty := AllL.go (l := xs.cls) trivial
             kitV := AllL.go (l := xs.cls) trivial
             noN := AllL.go (l := xs.cls) trivial
             sub := AllL.go (l := xs.cls) trivial
             kit := AllL.go (l := xs.cls) trivial }
    owq := fun f d h e => AllNF.at (P := fun f => ∀ d, p.fns[f]? = some d → d.own = true) (l := owL) ⟨(fun d e => by cases e; rfl), trivial⟩ f h d e
    xrs := fun x k f e => AllP.go (T := xrT) (Q := fun (x : Str) (z : Nat × Nat) => mg x = some (.ref ((fun k => [].getD k 0) z.1)) ∧ ∃ (fI : Addr) (a : Str), PySem.TrX.XCls K P mg ((fun k => [].getD k 0) z.1) fI a (mkNm mids z.2)) trivial x (k, f) e }
end
theorem law_fn {P : Program} {w : World} {K : PySem.W.Frag} {mg : Str → Option Value} {h : Heap} {fa : Addr} (X : K.In h) (G : h.Ns mainGlobals mg) (hfa : mg "law" = some (.ref fa))
    {f_split_words : Addr} {od_split_words an_split_words : Option Addr} {sl_split_words : Array (Option Value)} {oc_split_words kV_split_words dc_split_words pm_split_words cd_split_words ct_split_words : Value}
    {f__words_of_row : Addr} {od__words_of_row an__words_of_row : Option Addr} {sl__words_of_row : Array (Option Value)} {oc__words_of_row kV__words_of_row dc__words_of_row pm__words_of_row cd__words_of_row ct__words_of_row : Value}
    {f__law_number : Addr} {od__law_number an__law_number : Option Addr} {sl__law_number : Array (Option Value)} {oc__law_number kV__law_number dc__law_number pm__law_number cd__law_number ct__law_number : Value}
    {f__law_digits : Addr} {od__law_digits an__law_digits : Option Addr} {sl__law_digits : Array (Option Value)} {oc__law_digits kV__law_digits dc__law_digits pm__law_digits cd__law_digits ct__law_digits : Value}
    {f__law_digit : Addr} {od__law_digit an__law_digit : Option Addr} {sl__law_digit : Array (Option Value)} {oc__law_digit kV__law_digit dc__law_digit pm__law_digit cd__law_digit ct__law_digit : Value}
    {f__law_is_integer : Addr} {od__law_is_integer an__law_is_integer : Option Addr} {sl__law_is_integer : Array (Option Value)} {oc__law_is_integer kV__law_is_integer dc__law_is_integer pm__law_is_integer cd__law_is_integer ct__law_is_integer : Value}
    {f__law_word : Addr} {od__law_word an__law_word : Option Addr} {sl__law_word : Array (Option Value)} {oc__law_word kV__law_word dc__law_word pm__law_word cd__law_word ct__law_word : Value}
    {f__law_comment : Addr} {od__law_comment an__law_comment : Option Addr} {sl__law_comment : Array (Option Value)} {oc__law_comment kV__law_comment dc__law_comment pm__law_comment cd__law_comment ct__law_comment : Value}
    {f__law_blanks : Addr} {od__law_blanks an__law_blanks : Option Addr} {sl__law_blanks : Array (Option Value)} {oc__law_blanks kV__law_blanks dc__law_blanks pm__law_blanks cd__law_blanks ct__law_blanks : Value}
    {f__law_build : Addr} {od__law_build an__law_build : Option Addr} {sl__law_build : Array (Option Value)} {oc__law_build kV__law_build dc__law_build pm__law_build cd__law_build ct__law_build : Value}
    {f_law : Addr} {od_law an_law : Option Addr} {sl_law : Array (Option Value)} {oc_law kV_law dc_law pm_law cd_law ct_law : Value}
    (a_split_words : PySem.W.nsIn K mainGlobals "split_words" = some (some (.ref f_split_words)))
    (l_split_words : K.lookup f_split_words = some ⟨oc_split_words, od_split_words, .func (PySem.W.fnOf "split_words" "split_words" (defArgs d_split_words.st) (defBody d_split_words.st) (defScope d_split_words.st) .none kV_split_words dc_split_words pm_split_words an_split_words cd_split_words ct_split_words), sl_split_words⟩)
    (c_split_words : PySem.W.codeIn K cd_split_words "split_words" = true)
    (k_split_words : PySem.W.keepIn K (.ref f_split_words) = true)
    (a__words_of_row : PySem.W.nsIn K mainGlobals "_words_of_row" = some (some (.ref f__words_of_row)))
    (l__words_of_row : K.lookup f__words_of_row = some ⟨oc__words_of_row, od__words_of_row, .func (PySem.W.fnOf "_words_of_row" "_words_of_row" (defArgs d__words_of_row.st) (defBody d__words_of_row.st) (defScope d__words_of_row.st) .none kV__words_of_row dc__words_of_row pm__words_of_row an__words_of_row cd__words_of_row ct__words_of_row), sl__words_of_row⟩)
    (c__words_of_row : PySem.W.codeIn K cd__words_of_row "_words_of_row" = true)
    (k__words_of_row : PySem.W.keepIn K (.ref f__words_of_row) = true)
    (a__law_number : PySem.W.nsIn K mainGlobals "_law_number" = some (some (.ref f__law_number)))
    (l__law_number : K.lookup f__law_number = some ⟨oc__law_number, od__law_number, .func (PySem.W.fnOf "_law_number" "_law_number" (defArgs d__law_number.st) (defBody d__law_number.st) (defScope d__law_number.st) .none kV__law_number dc__law_number pm__law_number an__law_number cd__law_number ct__law_number), sl__law_number⟩)
    (c__law_number : PySem.W.codeIn K cd__law_number "_law_number" = true)
    (k__law_number : PySem.W.keepIn K (.ref f__law_number) = true)
    (a__law_digits : PySem.W.nsIn K mainGlobals "_law_digits" = some (some (.ref f__law_digits)))
    (l__law_digits : K.lookup f__law_digits = some ⟨oc__law_digits, od__law_digits, .func (PySem.W.fnOf "_law_digits" "_law_digits" (defArgs d__law_digits.st) (defBody d__law_digits.st) (defScope d__law_digits.st) .none kV__law_digits dc__law_digits pm__law_digits an__law_digits cd__law_digits ct__law_digits), sl__law_digits⟩)
    (c__law_digits : PySem.W.codeIn K cd__law_digits "_law_digits" = true)
    (k__law_digits : PySem.W.keepIn K (.ref f__law_digits) = true)
    (a__law_digit : PySem.W.nsIn K mainGlobals "_law_digit" = some (some (.ref f__law_digit)))
    (l__law_digit : K.lookup f__law_digit = some ⟨oc__law_digit, od__law_digit, .func (PySem.W.fnOf "_law_digit" "_law_digit" (defArgs d__law_digit.st) (defBody d__law_digit.st) (defScope d__law_digit.st) .none kV__law_digit dc__law_digit pm__law_digit an__law_digit cd__law_digit ct__law_digit), sl__law_digit⟩)
    (c__law_digit : PySem.W.codeIn K cd__law_digit "_law_digit" = true)
    (k__law_digit : PySem.W.keepIn K (.ref f__law_digit) = true)
    (a__law_is_integer : PySem.W.nsIn K mainGlobals "_law_is_integer" = some (some (.ref f__law_is_integer)))
    (l__law_is_integer : K.lookup f__law_is_integer = some ⟨oc__law_is_integer, od__law_is_integer, .func (PySem.W.fnOf "_law_is_integer" "_law_is_integer" (defArgs d__law_is_integer.st) (defBody d__law_is_integer.st) (defScope d__law_is_integer.st) .none kV__law_is_integer dc__law_is_integer pm__law_is_integer an__law_is_integer cd__law_is_integer ct__law_is_integer), sl__law_is_integer⟩)
    (c__law_is_integer : PySem.W.codeIn K cd__law_is_integer "_law_is_integer" = true)
    (k__law_is_integer : PySem.W.keepIn K (.ref f__law_is_integer) = true)
    (a__law_word : PySem.W.nsIn K mainGlobals "_law_word" = some (some (.ref f__law_word)))
    (l__law_word : K.lookup f__law_word = some ⟨oc__law_word, od__law_word, .func (PySem.W.fnOf "_law_word" "_law_word" (defArgs d__law_word.st) (defBody d__law_word.st) (defScope d__law_word.st) .none kV__law_word dc__law_word pm__law_word an__law_word cd__law_word ct__law_word), sl__law_word⟩)
    (c__law_word : PySem.W.codeIn K cd__law_word "_law_word" = true)
    (k__law_word : PySem.W.keepIn K (.ref f__law_word) = true)
    (a__law_comment : PySem.W.nsIn K mainGlobals "_law_comment" = some (some (.ref f__law_comment)))
    (l__law_comment : K.lookup f__law_comment = some ⟨oc__law_comment, od__law_comment, .func (PySem.W.fnOf "_law_comment" "_law_comment" (defArgs d__law_comment.st) (defBody d__law_comment.st) (defScope d__law_comment.st) .none kV__law_comment dc__law_comment pm__law_comment an__law_comment cd__law_comment ct__law_comment), sl__law_comment⟩)
    (c__law_comment : PySem.W.codeIn K cd__law_comment "_law_comment" = true)
    (k__law_comment : PySem.W.keepIn K (.ref f__law_comment) = true)
    (a__law_blanks : PySem.W.nsIn K mainGlobals "_law_blanks" = some (some (.ref f__law_blanks)))
    (l__law_blanks : K.lookup f__law_blanks = some ⟨oc__law_blanks, od__law_blanks, .func (PySem.W.fnOf "_law_blanks" "_law_blanks" (defArgs d__law_blanks.st) (defBody d__law_blanks.st) (defScope d__law_blanks.st) .none kV__law_blanks dc__law_blanks pm__law_blanks an__law_blanks cd__law_blanks ct__law_blanks), sl__law_blanks⟩)
    (c__law_blanks : PySem.W.codeIn K cd__law_blanks "_law_blanks" = true)
    (k__law_blanks : PySem.W.keepIn K (.ref f__law_blanks) = true)
    (a__law_build : PySem.W.nsIn K mainGlobals "_law_build" = some (some (.ref f__law_build)))
    (l__law_build : K.lookup f__law_build = some ⟨oc__law_build, od__law_build, .func (PySem.W.fnOf "_law_build" "_law_build" (defArgs d__law_build.st) (defBody d__law_build.st) (defScope d__law_build.st) .none kV__law_build dc__law_build pm__law_build an__law_build cd__law_build ct__law_build), sl__law_build⟩)
    (c__law_build : PySem.W.codeIn K cd__law_build "_law_build" = true)
    (k__law_build : PySem.W.keepIn K (.ref f__law_build) = true)
    (a_law : PySem.W.nsIn K mainGlobals "law" = some (some (.ref f_law)))
    (l_law : K.lookup f_law = some ⟨oc_law, od_law, .func (PySem.W.fnOf "law" "law" (defArgs d_law.st) (defBody d_law.st) (defScope d_law.st) .none kV_law dc_law pm_law an_law cd_law ct_law), sl_law⟩)
    (c_law : PySem.W.codeIn K cd_law "law" = true)
    (k_law : PySem.W.keepIn K (.ref f_law) = true)
    (hn : PySem.W.specialIn K (.builtin "object.__class__") "__get__" = some (some (.builtin "getset_descriptor.__get__")))
    (htk : PySem.W.takesIn K (.builtin "object.__class__") = some true)
    (z_bool : PySem.W.nsIn K mainGlobals "bool" = some none)
    (z_enumerate : PySem.W.nsIn K mainGlobals "enumerate" = some none)
    (z_int : PySem.W.nsIn K mainGlobals "int" = some none)
    (z_isinstance : PySem.W.nsIn K mainGlobals "isinstance" = some none)
    (z_len : PySem.W.nsIn K mainGlobals "len" = some none)
    (z_list : PySem.W.nsIn K mainGlobals "list" = some none)
    (z_range : PySem.W.nsIn K mainGlobals "range" = some none)
    (z_tuple : PySem.W.nsIn K mainGlobals "tuple" = some none) :
    ∃ T : Tab, ∃ fd : FuncData, T.tbs = [] ∧ (∀ (s : Shared) (v : Value), BindsTo s fd ⟨[v], []⟩ [("script", v)]) ∧ ∀ base : Heap, K.In base → base.Ns mainGlobals mg → FnOk P w K mg base (L2.CX P w) 5 fa fd ["script"] (spF K T 1 ((p.sm 5).sem 10)) := by
  have e := hfa.symm.trans (PySem.W.mg_of X G a_law)
  cases e
  have O := pg_ok (P := P) (w := w) X G f_split_words f__words_of_row f__law_number f__law_digits f__law_digit f__law_is_integer f__law_word f__law_comment f__law_blanks f__law_build fa a_split_words l_split_words c_split_words k_split_words a__words_of_row l__words_of_row c__words_of_row k__words_of_row a__law_number l__law_number c__law_number k__law_number a__law_digits l__law_digits c__law_digits k__law_digits a__law_digit l__law_digit c__law_digit k__law_digit a__law_is_integer l__law_is_integer c__law_is_integer k__law_is_integer a__law_word l__law_word c__law_word k__law_word a__law_comment l__law_comment c__law_comment k__law_comment a__law_blanks l__law_blanks c__law_blanks k__law_blanks a__law_build l__law_build c__law_build k__law_build a_law l_law c_law k_law hn htk z_bool z_enumerate z_int z_isinstance z_len z_list z_range z_tuple
  exact ⟨_, PySem.W.fnOf "law" "law" (defArgs d_law.st) (defBody d_law.st) (defScope d_law.st) .none kV_law dc_law pm_law an_law cd_law ct_law, rfl, fun s v => .of_eq rfl, fun base _ _ => (all_ok O (LamOk.none (by decide +kernel) (by decide +kernel)) rfl 5).1 10 d_law rfl⟩
end Lk50

set_option maxHeartbeats 4000000
namespace Lk50
open PySem PySem.Spec L2 Tr
/-! ### the law's digits -/
theorem law_number_ok {M : Sm} {ns : List Int} {k : Int} {P : D → Prop} {E : Exc → Prop} (hk : 0 ≤ k ∧ k ≤ 1000) (hl : ns.length ≤ 63) (q : ∀ z : Int, 0 ≤ z → P (.int z)) : wF 2 5 (semB M b__law_number) [.lst (ns.map .int), .int k] P E := by
  refine wF_of rfl ?_
  unfold b__law_number
  show semB _ _ _ [.val (.lst (ns.map .int)), .val (.int k), .emp, .emp, .emp]
  refine set_1 (Is.cst _ _ ?_)
  simp only [List.set_cons_zero, List.set_cons_succ]
  refine semB_c (seq_mid (J := fun ρ => ∃ c : Int, ρ = [.val (.lst (ns.map .int)), .val (.int k), .val (.int c), .emp, .emp]) (fun N hN => semS_b (iff_b (IsT.lt (Is.var rfl) (Is.len (Is.var rfl) (by rw [List.length_map]; omega))) (fun c => ?_) fun _ => nil_1 (M := M) (nil_1 (M := M) (hN _ ⟨0, rfl⟩)))) ?_)
  · have hlt : k < ns.length := by have := of_decide_eq_true c; rw [List.length_map] at this; omega
    exact set_1 (Is.ix (Is.var rfl) (Is.var rfl) (atI_int hk.1 hlt) _ _ (nil_1 (M := M) (nil_1 (M := M) (hN _ ⟨_, rfl⟩))))
  rintro ρ ⟨c, rfl⟩
  refine semB_c (seq_mid (J := fun ρ => ∃ c : Int, 0 ≤ c ∧ ρ = [.val (.lst (ns.map .int)), .val (.int k), .val (.int c), .emp, .emp]) (fun N hN => semS_b (iff_b (IsT.lt (Is.var rfl) Is.cst) (fun h => ?_) fun h => nil_1 (M := M) (nil_1 (M := M) (hN _ ⟨c, by have := of_decide_eq_false h; omega, rfl⟩)))) ?_)
  · exact set_1 (Is.sub Is.cst (Is.mul Is.cst (Is.var rfl) (mul_smallL (by decide))) _ _ (nil_1 (M := M) (nil_1 (M := M) (hN _ ⟨1 - 2 * c, by have := of_decide_eq_true h; omega, rfl⟩))))
  rintro ρ ⟨c, hc, rfl⟩
  refine iff_b (IsT.ge (Is.var rfl) Is.cst) (fun _ => ret_1 (Is.var rfl _ _ (q c hc))) fun h => nil_1 ?_
  have hc2 : c < 1000000000 := by have := of_decide_eq_false h; omega
  refine set_1 (Is.mod (Is.toint (Is.add (Is.mul (Is.add (Is.var rfl) Is.cst) Is.cst (mul_small (by decide))) (Is.mul (Is.add (Is.var rfl) Is.cst) Is.cst (mul_small (by decide))))) Is.cst (by decide) _ _ ?_)
  simp only [List.set_cons_zero, List.set_cons_succ]
  have m1 := mod_bd ((c + 17) * 48271 + (k + 3) * 69621) 2147483647 (by decide)
  generalize ((c + 17) * 48271 + (k + 3) * 69621) % 2147483647 = a at m1
  refine set_1 (Is.mod (Is.toint (Is.add (Is.mul (Is.var rfl) Is.cst (mul_small (by decide))) (Is.mul (Is.add (Is.var rfl) Is.cst) (Is.add (Is.var rfl) Is.cst) (mul_small (by omega))))) Is.cst (by decide) _ _ ?_)
  simp only [List.set_cons_zero, List.set_cons_succ]
  have m2 := mod_bd (a * 40692 + (c + 5) * (k + 11)) 2147483399 (by decide)
  generalize (a * 40692 + (c + 5) * (k + 11)) % 2147483399 = b at m2
  exact ret_1 (Is.add (Is.mul (Is.var rfl) Is.cst (mul_small (by decide))) (Is.var rfl) _ _ (q _ (by omega)))
theorem law_digits_ok {n : Nat} {ns : List Int} {f t : Int} {P : D → Prop} {E : Exc → Prop} (hf : 0 ≤ f ∧ f ≤ 500) (ht : 0 ≤ t ∧ t ≤ 400) (hl : ns.length ≤ 63) (q : P (.cell 2)) : wF 3 5 (semB (p.sm (n + 2)) b__law_digits) [.lst (ns.map .int), .int f, .int t] P E := by
  refine wF_of rfl ?_
  unfold b__law_digits
  show semB _ _ _ [.val (.lst (ns.map .int)), .val (.int f), .val (.int t), .emp, .emp]
  refine set_1 (Is.cst _ _ ?_)
  simp only [List.set_cons_zero, List.set_cons_succ]
  refine semB_c (seq_mid (J := fun ρ => ∃ (z : Int) (v : Tr.Slot), 0 ≤ z ∧ ρ = [.val (.lst (ns.map .int)), .val (.int f), .val (.int t), .val (.int z), v]) (fun N hN => sfor_r (Is.var rfl) (by unfold small62; omega) ?_) ?_)
  · refine for_rg (fun _ ρ => ∃ (z : Int) (v : Tr.Slot), 0 ≤ z ∧ ρ = [.val (.lst (ns.map .int)), .val (.int f), .val (.int t), .val (.int z), v]) ht.1 ⟨0, .emp, by decide, rfl⟩ (fun k h0 h1 ρ N' hI hN' => ?_) fun ρ hI => hN ρ hI
    obtain ⟨z, v, hz, rfl⟩ := hI
    refine semG_n ?_
    simp only [List.set_cons_zero, List.set_cons_succ]
    unfold b__law_digits_f0
    refine set_1 (bin_is (Is.mul (Is.var rfl) Is.cst (mul_small (by decide)) _ _ (call_is (IsA.cons (Is.var rfl) (IsA.cons (Is.sub (Is.sub (Is.add (Is.var rfl) (Is.var rfl)) Is.cst) (Is.var rfl)) IsA.nil)) ?_)))
    rw [call__law_number]
    refine law_number_ok (by omega) hl fun y hy => ?_
    simp only [binD]
    rw [dAdd_i]
    simp only [List.set_cons_zero, List.set_cons_succ]
    exact nil_1 (M := p.sm (n + 2)) (hN' _ ⟨_, _, by
      have := Int.mul_nonneg hz (show (0 : Int) ≤ 4611686018427387904 by decide)
      omega, rfl⟩)
  rintro ρ ⟨z, v, hz, rfl⟩
  exact ret_1 (dig_r (Is.var (d := .int z) rfl _ _ ⟨hz, q⟩))
theorem law_digit_ok {M : Sm} {m : Int} {P : D → Prop} {E : Exc → Prop} (hm : 0 < m ∧ m < 2 ^ 50) (q : ∀ r : Int, 0 ≤ r → r < m → P (.int r)) : wF 2 3 (semB M b__law_digit) [.cell 2, .int m] P E := by
  refine wF_of rfl ?_
  unfold b__law_digit
  show semB _ _ _ [.val (.cell 2), .val (.int m), .emp]
  refine set_1 (bin_is (dg_read rfl fun z hz => Is.var (d := .int m) rfl _ _ ?_))
  simp only [binD]
  rw [dMod_i]
  refine ⟨hm.1, ?_⟩
  simp only [List.set_cons_zero, List.set_cons_succ]
  have mb := mod_bd z m hm.1
  generalize z % m = r at mb
  refine digS_1 rfl (bin_is (dg_read rfl fun y hy => Is.var (d := .int m) rfl _ _ ?_))
  simp only [binD]
  rw [dDiv_i]
  refine ⟨div_sm hm.1 (by omega), Is.cst _ _ ⟨rfl, Int.ediv_nonneg hy (by omega), ?_⟩⟩
  exact ret_1 (Is.var (d := .int r) rfl _ _ (q r mb.1 mb.2))
/-! ### digits, used -/
section
variable {n : Nat} {ρ : List Tr.Slot} {P : D → Prop} {E : Exc → Prop} {m : Int} {i : Nat} {e : IE}
theorem dg {f : Nat} (hf : (p.sm (n + 2)).sem f = wF 2 3 (semB (p.sm (n + 1)) b__law_digit)) (hi : ρ[i]? = some (.val (.cell 2))) (h0 : 0 < m ∧ m < 2 ^ 50) (g : Is (p.sm (n + 2)) e ρ (.int m)) (q : ∀ r : Int, 0 ≤ r → r < m → P (.int r)) : semE (p.sm (n + 2)) (.call f [.var i, e]) ρ P E :=
  call_is (IsA.cons (Is.var hi) (IsA.cons g IsA.nil)) (by rw [hf]; exact law_digit_ok h0 q)
/-- one of a written list, drawn -/
theorem pick_d {f : Nat} {es : List IE} {ds : List D} (hf : (p.sm (n + 2)).sem f = wF 2 3 (semB (p.sm (n + 1)) b__law_digit)) (hi : ρ[i]? = some (.val (.cell 2))) (h0 : 0 < m ∧ m < 2 ^ 50) (g : Is (p.sm (n + 2)) e ρ (.int m)) (hd : IsA (p.sm (n + 2)) es ρ ds) (hl : (ds.length : Int) = m ∧ ds.length ≤ 1000) (q : ∀ d ∈ ds, P d) : semE (p.sm (n + 2)) (.ix (.lst es) (.call f [.var i, e])) ρ P E := by
  refine ix_is (Is.lst hd hl.2 _ _ (dg hf hi h0 g fun r r0 r1 => ?_))
  have hlt : r.toNat < ds.length := by omega
  have := L2.atI_nat (xs := ds) (j := r.toNat) (v := ds[r.toNat]) (List.getElem?_eq_getElem hlt)
  rw [Int.toNat_of_nonneg r0] at this
  rw [dIx_l, this]
  exact q _ (List.getElem_mem hlt)
end
/-- a sign of a text, drawn -/
theorem sign_any {n : Nat} {ρ : List Tr.Slot} {P : D → Prop} {E : Exc → Prop} {x : Str} {e : IE} (hx : SOk 60 x) (g : Is (p.sm (n + 2)) e ρ (.str x)) {f : IE} (h : ∀ Q : D → Prop, (∀ r : Int, 0 ≤ r → r < x.length → Q (.int r)) → semE (p.sm (n + 2)) f ρ Q E) (q : ∀ k, k < 1114112 → P (.str ⟨#[k]⟩)) : semE (p.sm (n + 2)) (.ix e f) ρ P E := by
  refine ix_is (g _ _ (h _ fun r h0 h1 => ?_))
  obtain ⟨k, hk, ha⟩ := atI_sign h0 h1
  show x.length ≤ sizeLine ∧ _
  refine ⟨Nat.le_trans hx.1 (by decide), ?_⟩
  rw [ha]
  exact q k (hx.2 k hk)
/-- one of a list of texts, drawn -/
theorem pick_s {n : Nat} {ρ : List Tr.Slot} {P : D → Prop} {E : Exc → Prop} {i f : Nat} {e : IE} {ss : List Str} (hf : (p.sm (n + 2)).sem f = wF 2 3 (semB (p.sm (n + 1)) b__law_digit)) (hi : ρ[i]? = some (.val (.cell 2))) (g : Is (p.sm (n + 2)) e ρ (.lst (ss.map .str))) (hl : 1 ≤ ss.length ∧ ss.length ≤ 900) (q : ∀ s ∈ ss, P (.str s)) : semE (p.sm (n + 2)) (.ix e (.call f [.var i, .blt .len [e]])) ρ P E := by
  refine ix_is (g _ _ (dg hf hi (m := ss.length) (by omega) (Is.to (Is.len g (by rw [List.length_map]; omega)) (by rw [List.length_map])) fun r r0 r1 => ?_))
  rw [dIx_l, atI_map (f := D.str) (xs := ss) "" r0 r1]
  exact q _ (getD_mem (xs := ss) "" r0 r1)
/-- the text of a number -/
def numS (i : Int) : Str := Str.ofString (toString i)
theorem num_ok : ∀ i : Int, -3 ≤ i → i ≤ 120 → SOk 4 (numS i) := fun i h0 h1 => by
  have t : ((List.range 124).all fun k => okS 4 (numS ((k : Int) - 3))) = true := by decide +kernel
  have := List.all_eq_true.mp t (i + 3).toNat (List.mem_range.mpr (by omega))
  rw [show (((i + 3).toNat : Nat) : Int) - 3 = i by omega] at this
  exact SOk.of this
/-! ### the words of a row, by a scan -/
abbrev Sl (l : List Nat) : Str := ⟨l.toArray⟩
def blk (c : Nat) : Bool := c == 32 || c == 9
def brc (c : Nat) : Bool := c == 123 || c == 125
def dlm (c : Nat) : Bool := blk c || brc c
abbrev Tok := List Nat × Int × Int
structure Sc where
  pos : Nat
  buf : List Nat
  tk : List Tok
def flush (l : Int) (s : Sc) : List Tok := if s.buf = [] then s.tk else s.tk ++ [(s.buf, l, (s.pos : Int) - s.buf.length + 1)]
def stp (l : Int) (s : Sc) (c : Nat) : Sc := if dlm c = true then ⟨s.pos + 1, [], flush l s ++ (if brc c = true then [([c], l, (s.pos : Int) + 1)] else [])⟩ else ⟨s.pos + 1, s.buf ++ [c], s.tk⟩
def scn (l : Int) (cs : List Nat) : Sc := cs.foldl (stp l) ⟨0, [], []⟩
def toks (l : Int) (cs : List Nat) : List Tok := flush l (scn l cs)
theorem scn_snoc (l : Int) (cs : List Nat) (c : Nat) : scn l (cs ++ [c]) = stp l (scn l cs) c := by unfold scn; rw [List.foldl_append]; rfl
theorem scn_app (l : Int) (cs ds : List Nat) : scn l (cs ++ ds) = ds.foldl (stp l) (scn l cs) := by unfold scn; rw [List.foldl_append]
/-- what a scan knows: the place, and that the word under way ends there -/
structure ScOk (cs : List Nat) (s : Sc) : Prop where
  p : s.pos = cs.length
  b : s.buf.length ≤ cs.length
  e : cs.drop (cs.length - s.buf.length) = s.buf
theorem scn_ok (l : Int) (cs : List Nat) : ScOk cs (scn l cs) := by
  obtain ⟨ds, rfl⟩ : ∃ ds : List Nat, cs = ds.reverse := ⟨cs.reverse, by rw [List.reverse_reverse]⟩
  induction ds with
  | nil => exact ⟨rfl, Nat.le_refl _, rfl⟩
  | cons c ds ih =>
    rw [List.reverse_cons, scn_snoc]
    generalize ds.reverse = es at ih
    generalize scn l es = s at ih
    have l1 : (es ++ [c]).length = es.length + 1 := by rw [List.length_append]; rfl
    unfold stp
    split
    · exact ⟨by rw [l1, ← ih.p], by rw [l1]; exact Nat.zero_le _, by
        show List.drop ((es ++ [c]).length - 0) (es ++ [c]) = []
        rw [Nat.sub_zero, List.drop_length]⟩
    · have lb : (s.buf ++ [c]).length = s.buf.length + 1 := by rw [List.length_append]; rfl
      refine ⟨by rw [l1, ← ih.p], by rw [l1]; show (s.buf ++ [c]).length ≤ _; rw [lb]; have := ih.b; omega, ?_⟩
      show List.drop ((es ++ [c]).length - (s.buf ++ [c]).length) (es ++ [c]) = s.buf ++ [c]
      have hb := ih.b
      rw [l1, lb, show es.length + 1 - (s.buf.length + 1) = es.length - s.buf.length by omega, List.drop_append_of_le_length (by omega), ih.e]
theorem flush_len (l : Int) (s : Sc) : (flush l s).length ≤ s.tk.length + 1 := by
  unfold flush
  split
  · omega
  · rw [List.length_append]; simp
theorem scn_len (l : Int) (cs : List Nat) : (scn l cs).tk.length ≤ 2 * cs.length := by
  obtain ⟨ds, rfl⟩ : ∃ ds : List Nat, cs = ds.reverse := ⟨cs.reverse, by rw [List.reverse_reverse]⟩
  induction ds with
  | nil => exact Nat.le_refl _
  | cons c ds ih =>
    rw [List.reverse_cons, scn_snoc, List.length_append]
    generalize scn l ds.reverse = s at ih
    have hf := flush_len l s
    unfold stp
    split
    · show (flush l s ++ _).length ≤ _
      rw [List.length_append]
      have : (if brc c = true then [(([c], l, (s.pos : Int) + 1) : Tok)] else []).length ≤ 1 := by split <;> simp
      simp only [List.length_singleton]
      omega
    · show s.tk.length ≤ _
      omega
/-- what is appended to a row, and its words -/
theorem app_blk (l : Int) : ∀ (bs : List Nat) (s : Sc), (∀ c ∈ bs, blk c = true) → bs.foldl (stp l) s = if bs = [] then s else ⟨s.pos + bs.length, [], flush l s⟩
  | [], s, _ => by rw [if_pos rfl]; rfl
  | c :: bs, s, h => by
    have hc := h c List.mem_cons_self
    have e1 : stp l s c = ⟨s.pos + 1, [], flush l s⟩ := by
      unfold stp
      have d : dlm c = true := by unfold dlm; rw [hc]; rfl
      have b : brc c = false := by
        unfold blk at hc
        unfold brc
        rcases (Bool.or_eq_true _ _).mp hc with z | z <;> rw [beq_iff_eq.mp z] <;> rfl
      rw [if_pos d, b]
      simp
    have e2 : flush l ⟨s.pos + 1, [], flush l s⟩ = flush l s := by
      show (if ([] : List Nat) = [] then flush l s else _) = _
      rw [if_pos rfl]
    have e3 : (if c :: bs = [] then s else (⟨s.pos + (c :: bs).length, [], flush l s⟩ : Sc)) = ⟨s.pos + (bs.length + 1), [], flush l s⟩ := if_neg (fun z => nomatch z)
    rw [List.foldl_cons, e1, e3, app_blk l bs _ fun x hx => h x (List.mem_cons_of_mem _ hx), e2]
    by_cases z : bs = []
    · subst z; rfl
    · rw [if_neg z]
      congr 1
      show s.pos + 1 + bs.length = _
      omega
theorem app_wrd (l : Int) : ∀ (ws : List Nat) (s : Sc), (∀ c ∈ ws, dlm c = false) → ws.foldl (stp l) s = ⟨s.pos + ws.length, s.buf ++ ws, s.tk⟩
  | [], s, _ => by simp
  | c :: ws, s, h => by
    have hc := h c List.mem_cons_self
    have e1 : stp l s c = ⟨s.pos + 1, s.buf ++ [c], s.tk⟩ := by
      unfold stp
      rw [hc]
      simp
    rw [List.foldl_cons, e1, app_wrd l ws _ fun x hx => h x (List.mem_cons_of_mem _ hx), List.length_cons, List.append_assoc]
    congr 1
    show s.pos + 1 + ws.length = _
    omega
theorem flush_nil {l : Int} {s : Sc} (h : s.buf = []) : flush l s = s.tk := if_pos h
theorem toks_blk {l : Int} {cs bs : List Nat} (h : ∀ c ∈ bs, blk c = true) : toks l (cs ++ bs) = toks l cs := by
  unfold toks
  rw [scn_app, app_blk l bs _ h]
  split
  · rfl
  · exact flush_nil rfl
theorem toks_wrd {l : Int} {cs bs ws : List Nat} (h : ∀ c ∈ bs, blk c = true) (hw : ∀ c ∈ ws, dlm c = false) (ne : ws ≠ []) (hb : (scn l cs).buf = [] ∨ bs ≠ []) : toks l (cs ++ bs ++ ws) = toks l cs ++ [(ws, l, (cs.length : Int) + bs.length + 1)] := by
  have e1 : scn l (cs ++ bs) = ⟨cs.length + bs.length, [], toks l cs⟩ := by
    rw [scn_app, app_blk l bs _ h]
    split
    · rename_i z
      subst z
      have hb : (scn l cs).buf = [] := hb.elim id fun z => absurd rfl z
      have p := (scn_ok l cs).p
      unfold toks
      rw [flush_nil hb]
      cases e : scn l cs
      rw [e] at hb p
      simp only at hb p
      subst hb
      subst p
      rfl
    · rw [(scn_ok l cs).p]; rfl
  unfold toks
  rw [scn_app, e1, app_wrd l ws _ hw]
  unfold flush
  rw [if_neg (by simpa using ne)]
  congr 1
  simp only [List.nil_append]
  congr 1
  congr 1
  congr 1
  omega
theorem toks_brc {l : Int} {cs bs : List Nat} {c : Nat} (h : ∀ c ∈ bs, blk c = true) (hc : brc c = true) : toks l (cs ++ bs ++ [c]) = toks l cs ++ [([c], l, (cs.length : Int) + bs.length + 1)] := by
  have e0 := toks_blk (l := l) (cs := cs) h
  have p := (scn_ok l (cs ++ bs)).p
  have d : dlm c = true := by unfold dlm; rw [hc]; simp
  unfold toks at e0
  have e1 : scn l (cs ++ bs ++ [c]) = ⟨(cs ++ bs).length + 1, [], toks l cs ++ [([c], l, (cs.length : Int) + bs.length + 1)]⟩ := by
    rw [scn_snoc]
    unfold stp
    rw [if_pos d, if_pos hc, e0, p, List.length_append]
    congr 2
  show flush l (scn l (cs ++ bs ++ [c])) = _
  rw [e1]
  exact flush_nil rfl
theorem buf_brc {l : Int} {cs : List Nat} {c : Nat} (hc : brc c = true) : (scn l (cs ++ [c])).buf = [] := by
  have d : dlm c = true := by unfold dlm; rw [hc]; simp
  rw [scn_snoc]
  unfold stp
  rw [if_pos d]
/-! ### rows, put together and taken apart -/
theorem Sl_app (a b : List Nat) : Sl a ++ Sl b = Sl (a ++ b) := by
  show Str.mk (a.toArray ++ b.toArray) = _
  rw [List.append_toArray]
theorem Sl_len (a : List Nat) : (Sl a).length = a.length := by show a.toArray.size = _; simp
theorem glue_snoc (g : Str) : ∀ (ps : List Str) (q : Str), ps ≠ [] → Txt.join g (ps ++ [q]) = Txt.join g ps ++ g ++ q
  | [], _, h => absurd rfl h
  | p :: ps, q, _ => by
    show Str.mk (List.foldl _ _ (ps ++ [q])) = Str.mk (_ ++ _ ++ _)
    rw [List.foldl_append]
    rfl
theorem join_one (g q : Str) : Txt.join g [q] = q := rfl
/-- more in the last row -/
theorem join_more (g : Str) (ps : List Str) (q w : Str) : Txt.join g (ps ++ [q ++ w]) = Txt.join g (ps ++ [q]) ++ w := by
  by_cases z : ps = []
  · subst z; rfl
  · rw [glue_snoc _ _ _ z, glue_snoc _ _ _ z]
    exact congrArg Str.mk (Array.append_assoc ..).symm
/-- a new row -/
theorem join_next (g : Str) (ps : List Str) (q : Str) : Txt.join g (ps ++ [q] ++ [Sl []]) = Txt.join g (ps ++ [q]) ++ g := by
  rw [glue_snoc _ _ _ (by simp)]
  show Str.mk (_ ++ #[]) = _
  rw [Array.append_empty]
theorem nl_S : ("\n" : Str) = Sl [10] := by decide +kernel
theorem hash_S : ("#" : Str) = Sl [35] := by decide +kernel
/-- a row: its words, and a comment or nothing -/
structure Row where
  c : List Nat
  t : List Nat
def rowS (r : Row) : Str := Sl (r.c ++ r.t)
structure RowOk (r : Row) : Prop where
  c : ∀ k ∈ r.c, k ≠ 35 ∧ k ≠ 10
  t : ∀ k ∈ r.t, k ≠ 10
  h : r.t = [] ∨ ∃ k, r.t = 35 :: k
theorem split_rows {rs : List Row} (h : ∀ r ∈ rs, RowOk r) (ne : rs ≠ []) : Txt.split (Txt.join "\n" (rs.map rowS)) "\n" = rs.map rowS := by
  refine TL.split_join (s := 10) (S := []) (by decide +kernel) (by decide +kernel) (by simpa using ne) fun p hp => ?_
  obtain ⟨r, hr, rfl⟩ := List.mem_map.mp hp
  have ok := h r hr
  intro z
  have z : 10 ∈ r.c ++ r.t := by simpa [TL.tl, rowS] using z
  rcases List.mem_append.mp z with z | z
  · exact (ok.c _ z).2 rfl
  · exact ok.t _ z rfl
theorem part_row {r : Row} (h : RowOk r) : (Txt.partition (rowS r) "#").1 = Sl r.c := by
  have hc : ¬ 35 ∈ TL.tl (Sl r.c) := fun z => by
    have z : 35 ∈ r.c := by simpa [TL.tl] using z
    exact (h.c _ z).1 rfl
  rcases h.h with e | ⟨k, e⟩
  · have : rowS r = Sl r.c := by unfold rowS; rw [e, List.append_nil]
    rw [this, TL.partition_none (s := 35) (S := []) (by decide +kernel) hc]
  · have : rowS r = Sl r.c ++ "#" ++ Sl k := by
      unfold rowS
      rw [e, hash_S, Sl_app, Sl_app, List.append_assoc]
      rfl
    rw [this, TL.partition_app (s := 35) (S := []) (by decide +kernel) hc]
/-! ### the words, by the program -/
def tkD (t : Tok) : D := .tup [.str (Sl t.1), .int t.2.1, .int t.2.2]
def rT : Int → List Row → List Tok
  | _, [] => []
  | l, r :: rs => toks l r.c ++ rT (l + 1) rs
theorem rT_snoc : ∀ (l : Int) (rs : List Row) (r : Row), rT l (rs ++ [r]) = rT l rs ++ toks (l + rs.length) r.c
  | l, [], r => by
    show toks l r.c ++ [] = [] ++ toks (l + (0 : Nat)) r.c
    rw [List.append_nil, List.nil_append]
    congr 1
    omega
  | l, s :: rs, r => by
    show toks l s.c ++ rT (l + 1) (rs ++ [r]) = toks l s.c ++ rT (l + 1) rs ++ toks (l + ((rs.length + 1 : Nat) : Int)) r.c
    rw [rT_snoc (l + 1) rs r, List.append_assoc]
    congr 3
    omega
theorem rT_take : ∀ (l : Int) (rs : List Row) (i : Nat), (rT l (rs.take i)).length ≤ (rT l rs).length
  | l, [], i => by simp
  | l, r :: rs, 0 => Nat.zero_le _
  | l, r :: rs, i + 1 => by
    rw [List.take_succ_cons]
    show (toks l r.c ++ rT (l + 1) (rs.take i)).length ≤ (toks l r.c ++ rT (l + 1) rs).length
    rw [List.length_append, List.length_append]
    have := rT_take (l + 1) rs i
    omega
theorem dlm_in (c : Nat) : decide (c ∈ (" \t{}" : Str).cps.toList) = dlm c := by
  have e : (" \t{}" : Str).cps.toList = [32, 9, 123, 125] := by decide +kernel
  rw [e]
  unfold dlm blk brc
  by_cases h1 : c = 32
  · subst h1; rfl
  by_cases h2 : c = 9
  · subst h2; rfl
  by_cases h3 : c = 123
  · subst h3; rfl
  by_cases h4 : c = 125
  · subst h4; rfl
  rw [beq_eq_false_iff_ne.mpr h1, beq_eq_false_iff_ne.mpr h2, beq_eq_false_iff_ne.mpr h3, beq_eq_false_iff_ne.mpr h4]
  simp [h1, h2, h3, h4]
theorem brc_in (c : Nat) : decide (c ∈ ("{}" : Str).cps.toList) = brc c := by
  have e : ("{}" : Str).cps.toList = [123, 125] := by decide +kernel
  rw [e]
  unfold brc
  by_cases h3 : c = 123
  · subst h3; rfl
  by_cases h4 : c = 125
  · subst h4; rfl
  rw [beq_eq_false_iff_ne.mpr h3, beq_eq_false_iff_ne.mpr h4]
  simp [h3, h4]
theorem sp_S : (" " : Str) = Sl [32] := by decide +kernel
section
variable {M : Sm} {n : Nat} {P : List D → Prop} {Q : D → Prop} {E : Exc → Prop} {cs : List Nat} {l : Int} {rs : List Row}
theorem tk_more {ts : List Tok} {t : Tok} : ts.map tkD ++ [tkD t] = (ts ++ [t]).map tkD := by rw [List.map_append]; rfl
theorem words_row_ok (hl : cs.length ≤ 400) (q : P ((toks l cs).map tkD)) : wFO 2 6 (semB M b__words_of_row) [.str (Sl cs), .int l] P E := by
  refine ⟨rfl, ?_⟩
  unfold b__words_of_row
  show semB _ _ _ [.val (.str (Sl cs)), .val (.int l), .emp, .emp, .emp, .emp]
  refine new_1 (ds := []) (Is.lst IsA.nil (by simp)) ?_
  simp only [List.set_cons_zero, List.set_cons_succ]
  refine set_1 (Is.cst _ _ ?_)
  simp only [List.set_cons_zero, List.set_cons_succ]
  have sl := Sl_len cs
  have ch : chD (Sl (cs ++ [32])) = (cs ++ [32]).map fun k => D.str ⟨#[k]⟩ := by unfold chD; simp
  have lf : (cs ++ [32]).length = cs.length + 1 := by simp
  refine semB_c (seq_mid (J := fun ρ => ∃ v3 v4 v5 : Tr.Slot, ρ = [.val (.str (Sl cs)), .val (.int l), .own (.lst ((toks l cs).map tkD)), v3, v4, v5]) (fun N hN => sfor_enS (x := Sl (cs ++ [32])) (Is.to (Is.catS (Is.var rfl) Is.cst (by rw [sl, sp_S, Sl_len]; simp; omega)) (by rw [sp_S, Sl_app])) ?_) ?_)
  · rw [ch]
    refine for_inv (fun i ρ => ∃ v4 v5 : Tr.Slot, ρ = [.val (.str (Sl cs)), .val (.int l), .own (.lst ((scn l ((cs ++ [32]).take i)).tk.map tkD)), .val (.int ((i : Int) - (scn l ((cs ++ [32]).take i)).buf.length)), v4, v5]) ⟨_, _, rfl⟩ (fun i hi ρ N' hI hN' => ?_) fun ρ hI => ?_
    · obtain ⟨v4, v5, rfl⟩ := hI
      have hlt : i < (cs ++ [32]).length := by rwa [en_len, List.length_map] at hi
      have hic : i ≤ cs.length := by omega
      rw [enD_at hi, List.getElem_map]
      have st : scn l ((cs ++ [32]).take (i + 1)) = stp l (scn l ((cs ++ [32]).take i)) (cs ++ [32])[i] := by
        rw [List.take_succ_eq_append_getElem hlt, scn_snoc]
      rw [st] at hN'
      have ok := scn_ok l ((cs ++ [32]).take i)
      have tl := scn_len l ((cs ++ [32]).take i)
      have e2 : (cs ++ [32]).take i = cs.take i := List.take_append_of_le_length hic
      have lt : (cs.take i).length = i := by rw [List.length_take]; omega
      rw [e2] at ok tl hN' ⊢
      rw [lt] at tl
      generalize (cs ++ [32])[i] = c at hN' ⊢
      generalize scn l (cs.take i) = s at ok tl hN'
      have p := ok.p
      have hb := ok.b
      have he := ok.e
      rw [lt] at p hb he
      refine semG_2 ?_
      simp only [List.set_cons_zero, List.set_cons_succ]
      unfold b__words_of_row_f0
      have hd : IsT M (.cmp .In (.var 5) (.cst (.str " \t{}"))) [.val (.str (Sl cs)), .val (.int l), .own (.lst (s.tk.map tkD)), .val (.int ((i : Int) - s.buf.length)), .val (.int i), .val (.str ⟨#[c]⟩)] (dlm c) := (IsT.inS (Is.var rfl) Is.cst).to (dlm_in c)
      refine iff_b hd (fun z => ?_) fun z => ?_
      · have e3 : stp l s c = ⟨s.pos + 1, [], flush l s ++ (if brc c = true then [([c], l, (s.pos : Int) + 1)] else [])⟩ := by unfold stp; rw [if_pos z]
        rw [e3] at hN'
        have fl := flush_len l s
        refine semB_c (seq_mid (J := fun ρ => ρ = [.val (.str (Sl cs)), .val (.int l), .own (.lst ((flush l s).map tkD)), .val (.int ((i : Int) - s.buf.length)), .val (.int i), .val (.str ⟨#[c]⟩)]) (fun N hN => semS_b (iff_b (IsT.lt (Is.var rfl) (Is.var rfl)) (fun h => ?_) fun h => ?_)) ?_)
        · have h := of_decide_eq_true h
          have nb : s.buf ≠ [] := fun z => by rw [z] at h; simp at h
          have ef : flush l s = s.tk ++ [(s.buf, l, (s.pos : Int) - s.buf.length + 1)] := if_neg nb
          have ec : cutS (Sl cs) (some ((i : Int) - s.buf.length)) (some (i : Int)) = Sl s.buf := by
            rw [show (i : Int) - s.buf.length = ((i - s.buf.length : Nat) : Int) by omega, cutS_nat cs _ _ (by omega) hic, he]
          refine app_1 (d := tkD (s.buf, l, (s.pos : Int) - s.buf.length + 1)) rfl (Is.to (Is.tup (IsA.cons (Is.slABS (Is.var rfl) (Is.var rfl) (Is.var rfl) (by rw [sl]; omega)) (IsA.cons (Is.var rfl) (IsA.cons (Is.add (Is.var rfl) Is.cst) IsA.nil))) (by simp)) (by rw [ec, p]; rfl)) (by rw [List.length_map]; omega) ?_
          simp only [List.set_cons_zero, List.set_cons_succ]
          rw [tk_more, ← ef]
          exact nil_1 (M := M) (nil_1 (M := M) (hN _ rfl))
        · have h := of_decide_eq_false h
          have nb : s.buf = [] := List.eq_nil_of_length_eq_zero (by omega)
          have ef : flush l s = s.tk := if_pos nb
          rw [ef] at hN
          exact nil_1 (M := M) (nil_1 (M := M) (hN _ rfl))
        rintro ρ rfl
        have hb2 : IsT M (.cmp .In (.var 5) (.cst (.str "{}"))) [.val (.str (Sl cs)), .val (.int l), .own (.lst ((flush l s).map tkD)), .val (.int ((i : Int) - s.buf.length)), .val (.int i), .val (.str ⟨#[c]⟩)] (brc c) := (IsT.inS (Is.var rfl) Is.cst).to (brc_in c)
        refine semB_c (seq_mid (J := fun ρ => ρ = [.val (.str (Sl cs)), .val (.int l), .own (.lst ((flush l s ++ (if brc c = true then [([c], l, (s.pos : Int) + 1)] else [])).map tkD)), .val (.int ((i : Int) - s.buf.length)), .val (.int i), .val (.str ⟨#[c]⟩)]) (fun N hN => semS_b (iff_b hb2 (fun h => ?_) fun h => ?_)) ?_)
        · rw [if_pos h] at hN
          refine app_1 (d := tkD ([c], l, (s.pos : Int) + 1)) rfl (Is.to (Is.tup (IsA.cons (Is.var rfl) (IsA.cons (Is.var rfl) (IsA.cons (Is.add (Is.var rfl) Is.cst) IsA.nil))) (by simp)) (by rw [p]; rfl)) (by rw [List.length_map]; omega) ?_
          simp only [List.set_cons_zero, List.set_cons_succ]
          rw [tk_more]
          exact nil_1 (M := M) (nil_1 (M := M) (hN _ rfl))
        · rw [if_neg (by rw [h]; decide), List.append_nil] at hN
          exact nil_1 (M := M) (nil_1 (M := M) (hN _ rfl))
        rintro ρ rfl
        refine set_1 (Is.add (Is.var rfl) Is.cst _ _ ?_)
        simp only [List.set_cons_zero, List.set_cons_succ]
        refine nil_1 (M := M) (nil_1 (M := M) (hN' _ ⟨.val (.int i), .val (.str ⟨#[c]⟩), ?_⟩))
        have : (i : Int) + 1 = ((i + 1 : Nat) : Int) - (([] : List Nat).length : Int) := by simp
        rw [this]
      · have e3 : stp l s c = ⟨s.pos + 1, s.buf ++ [c], s.tk⟩ := by unfold stp; rw [if_neg (by rw [z]; decide)]
        rw [e3] at hN'
        refine nil_1 (M := M) (nil_1 (M := M) (hN' _ ⟨.val (.int i), .val (.str ⟨#[c]⟩), ?_⟩))
        have : (i : Int) - s.buf.length = ((i + 1 : Nat) : Int) - ((s.buf ++ [c]).length : Int) := by rw [List.length_append, List.length_singleton]; omega
        rw [this]
    · obtain ⟨v4, v5, rfl⟩ := hI
      have key : ∀ v3, N [.val (.str (Sl cs)), .val (.int l), .own (.lst ((toks l cs).map tkD)), v3, v4, v5] := fun v3 => hN _ ⟨v3, v4, v5, rfl⟩
      have e4 : (stp l (scn l cs) 32).tk = toks l cs := by
        show (if dlm 32 = true then _ else _ : Sc).tk = _
        rw [if_pos (by decide)]
        show flush l (scn l cs) ++ (if brc 32 = true then _ else []) = _
        rw [if_neg (by decide), List.append_nil]
        rfl
      rw [← e4, ← scn_snoc] at key
      rw [en_len, List.length_map, List.take_length]
      exact key _
  · rintro ρ ⟨v3, v4, v5, rfl⟩
    exact retO_1 rfl q
theorem split_words_ok (hr : ∀ r ∈ rs, RowOk r ∧ r.c.length ≤ 400 ∧ (rowS r).length ≤ 1000) (ne : rs ≠ []) (ht : (Txt.join "\n" (rs.map rowS)).length ≤ 1000) (hT : (rT 1 rs).length ≤ 400) (q : Q (.lst ((rT 1 rs).map tkD))) : wF 1 4 (semB (p.sm (n + 2)) b_split_words) [.str (Txt.join "\n" (rs.map rowS))] Q E := by
  refine wF_of rfl ?_
  unfold b_split_words
  show semB _ _ _ [.val (.str (Txt.join "\n" (rs.map rowS))), .emp, .emp, .emp]
  refine new_1 (ds := []) (Is.lst IsA.nil (by simp)) ?_
  simp only [List.set_cons_zero, List.set_cons_succ]
  have sr := split_rows (fun r h => (hr r h).1) ne
  generalize Txt.join "\n" (rs.map rowS) = text at ht sr ⊢
  refine semB_c (seq_mid (J := fun ρ => ∃ v2 v3 : Tr.Slot, ρ = [.val (.str text), .own (.lst ((rT 1 rs).map tkD)), v2, v3]) (fun N hN => sfor_enm (ds := (rs.map rowS).map .str) (Is.to (Is.splt (Is.var rfl) Is.cst (by decide +kernel) (by omega)) (by rw [sr])) ?_) ?_)
  · refine for_inv (fun i ρ => ∃ v2 v3 : Tr.Slot, ρ = [.val (.str text), .own (.lst ((rT 1 (rs.take i)).map tkD)), v2, v3]) ⟨_, _, rfl⟩ (fun i hi ρ N' hI hN' => ?_) fun ρ hI => ?_
    · obtain ⟨v2, v3, rfl⟩ := hI
      have hlt : i < rs.length := by rwa [en_len, List.length_map, List.length_map] at hi
      rw [enD_at hi, List.getElem_map, List.getElem_map]
      have ok := hr _ (List.getElem_mem hlt)
      have t1 := rT_take 1 rs (i + 1)
      have st : rT 1 (rs.take (i + 1)) = rT 1 (rs.take i) ++ toks ((i : Int) + 1) rs[i].c := by
        rw [List.take_succ_eq_append_getElem hlt, rT_snoc, List.length_take, Nat.min_eq_left (by omega)]
        congr 2
        omega
      rw [st] at hN' t1
      rw [List.length_append] at t1
      generalize rT 1 (rs.take i) = acc at hN' t1
      generalize rs[i] = r at ok hN' t1
      refine semG_2 ?_
      simp only [List.set_cons_zero, List.set_cons_succ]
      unfold b_split_words_f0
      refine ext_1 (es := (toks ((i : Int) + 1) r.c).map tkD) rfl (Is.call (IsA.cons (Is.to (Is.ixT (Is.prtn (Is.var rfl) Is.cst (by decide +kernel) (by have := ok.2.2; omega)) Is.cst rfl) (congrArg D.str (part_row ok.1))) (IsA.cons (Is.add (Is.var rfl) Is.cst) IsA.nil)) fun P E q => by
        rw [call__words_of_row]
        exact words_row_ok ok.2.1 q) (by rw [List.length_map, List.length_map]; omega) ?_
      simp only [List.set_cons_zero, List.set_cons_succ]
      exact nil_1 (M := p.sm (n + 2)) (hN' _ ⟨_, _, by rw [List.map_append]⟩)
    · obtain ⟨v2, v3, rfl⟩ := hI
      refine hN _ ⟨v2, v3, ?_⟩
      rw [en_len, List.length_map, List.length_map, List.take_length]
  · rintro ρ ⟨v2, v3, rfl⟩
    refine frz_1 (ds := (rT 1 rs).map tkD) rfl ?_
    simp only [List.set_cons_zero, List.set_cons_succ]
    exact ret_1 (Is.var rfl _ _ q)
end
/-! ### pieces, drawn -/
section
variable {n : Nat} {P : D → Prop} {E : Exc → Prop} {ρ : List Tr.Slot}
theorem sign_in {x : Str} {e : IE} (hx : x.length ≤ 1000) (g : Is (p.sm (n + 2)) e ρ (.str x)) {f : IE} (h : ∀ Q : D → Prop, (∀ r : Int, 0 ≤ r → r < x.length → Q (.int r)) → semE (p.sm (n + 2)) f ρ Q E) (q : ∀ k, k ∈ x.cps.toList → P (.str (Sl [k]))) : semE (p.sm (n + 2)) (.ix e f) ρ P E := by
  refine ix_is (g _ _ (h _ fun r h0 h1 => ?_))
  obtain ⟨k, hk, ha⟩ := atI_sign h0 h1
  show x.length ≤ sizeLine ∧ _
  refine ⟨Nat.le_trans hx (by decide), ?_⟩
  rw [ha]
  exact q k hk
def wch (c : Nat) : Bool := !dlm c && !(c == 35) && !(c == 10) && decide (c < 128)
theorem law_word_ok (q : ∀ w : List Nat, 1 ≤ w.length → w.length ≤ 7 → (∀ c ∈ w, wch c = true) → P (.str (Sl w))) : wF 1 4 (semB (p.sm (n + 2)) b__law_word) [.cell 2] P E := by
  refine wF_of rfl ?_
  unfold b__law_word
  show semB _ _ _ [.val (.cell 2), .emp, .emp, .emp]
  obtain ⟨ch, hch⟩ : ∃ ch : Str, ch = "!\"$&'()*+,-./0123456789:;<=>?@ABCDEFGHIJKLMNOPQRSTUVWXYZ[\\]^_`abcdefghijklmnopqrstuvwxyz|~" := ⟨_, rfl⟩
  have ch_l : 1 ≤ ch.length ∧ ch.length ≤ 1000 := by rw [hch]; decide +kernel
  have ch_s : ∀ c ∈ ch.cps.toList, wch c = true := by rw [hch]; decide +kernel
  rw [← hch]
  refine set_1 (Is.cst _ _ ?_)
  simp only [List.set_cons_zero, List.set_cons_succ]
  refine set_1 (Is.cst _ _ ?_)
  simp only [List.set_cons_zero, List.set_cons_succ]
  refine semB_c (seq_mid (J := fun ρ => ∃ (w : List Nat) (v : Tr.Slot), (1 ≤ w.length ∧ w.length ≤ 7 ∧ ∀ c ∈ w, wch c = true) ∧ ρ = [.val (.cell 2), .val (.str ch), .val (.str (Sl w)), v]) (fun N hN => sfor_any (bin_is (Is.cst _ _ (dg (call__law_digit _) rfl (m := 7) (by decide) Is.cst fun t t0 t1 => ?_)))) ?_)
  · simp only [binD]
    rw [dAdd_i]
    refine ⟨by unfold small62; omega, ?_⟩
    refine for_rg (fun k ρ => ∃ (w : List Nat) (v : Tr.Slot), ((w.length : Int) = k ∧ ∀ c ∈ w, wch c = true) ∧ ρ = [.val (.cell 2), .val (.str ch), .val (.str (Sl w)), v]) (by omega) ⟨[], _, ⟨rfl, fun _ z => nomatch z⟩, by rw [show ("" : Str) = Sl [] by decide +kernel]⟩ (fun k k0 k1 ρ N' hI hN' => ?_) fun ρ hI => ?_
    · obtain ⟨w, v, ⟨hl, hw⟩, rfl⟩ := hI
      refine semG_n ?_
      simp only [List.set_cons_zero, List.set_cons_succ]
      unfold b__law_word_f0
      refine set_1 (bin_is (Is.var (d := .str (Sl w)) rfl _ _ (sign_in ch_l.2 (Is.var rfl) (fun Q hQ => dg (call__law_digit _) rfl (m := ch.length) (by omega) (Is.lenS (Is.var rfl) ch_l.2) hQ) fun c hc => ?_)))
      refine ⟨Nat.le_trans (show (Sl w).length + (Sl [c]).length ≤ 1000 by rw [Sl_len, Sl_len]; simp; omega) (by decide), ?_⟩
      rw [Sl_app]
      simp only [List.set_cons_zero, List.set_cons_succ]
      refine nil_1 (M := p.sm (n + 2)) (hN' _ ⟨w ++ [c], _, ⟨by rw [List.length_append, List.length_singleton]; omega, fun x hx => ?_⟩, rfl⟩)
      rcases List.mem_append.mp hx with z | z
      · exact hw x z
      · rw [List.mem_singleton.mp z]; exact ch_s c hc
    · obtain ⟨w, v, ⟨hl, hw⟩, rfl⟩ := hI
      exact hN _ ⟨w, v, ⟨by omega, by omega, hw⟩, rfl⟩
  · rintro ρ ⟨w, v, ⟨h1, h2, hw⟩, rfl⟩
    exact ret_1 (Is.var (d := .str (Sl w)) rfl _ _ (q w h1 h2 hw))
theorem law_comment_ok (q : ∀ k : List Nat, k.length ≤ 5 → (∀ c ∈ k, c ≠ 10) → P (.str (Sl (35 :: k ++ [10])))) : wF 1 4 (semB (p.sm (n + 2)) b__law_comment) [.cell 2] P E := by
  refine wF_of rfl ?_
  unfold b__law_comment
  show semB _ _ _ [.val (.cell 2), .emp, .emp, .emp]
  obtain ⟨ch, hch⟩ : ∃ ch : Str, ch = "#{} move\tx9~!" := ⟨_, rfl⟩
  have ch_l : 1 ≤ ch.length ∧ ch.length ≤ 1000 := by rw [hch]; decide +kernel
  have ch_s : ∀ c ∈ ch.cps.toList, c ≠ 10 := by rw [hch]; decide +kernel
  rw [← hch]
  refine set_1 (Is.cst _ _ ?_)
  simp only [List.set_cons_zero, List.set_cons_succ]
  refine set_1 (Is.cst _ _ ?_)
  simp only [List.set_cons_zero, List.set_cons_succ]
  refine semB_c (seq_mid (J := fun ρ => ∃ (k : List Nat) (v : Tr.Slot), (k.length ≤ 5 ∧ ∀ c ∈ k, c ≠ 10) ∧ ρ = [.val (.cell 2), .val (.str ch), .val (.str (Sl (35 :: k))), v]) (fun N hN => sfor_any (dg (call__law_digit _) rfl (m := 6) (by decide) Is.cst fun t t0 t1 => ⟨by unfold small62; omega, ?_⟩)) ?_)
  · refine for_rg (fun j ρ => ∃ (k : List Nat) (v : Tr.Slot), ((k.length : Int) = j ∧ ∀ c ∈ k, c ≠ 10) ∧ ρ = [.val (.cell 2), .val (.str ch), .val (.str (Sl (35 :: k))), v]) (by omega) ⟨[], _, ⟨rfl, fun _ z => nomatch z⟩, by rw [hash_S]⟩ (fun j j0 j1 ρ N' hI hN' => ?_) fun ρ hI => ?_
    · obtain ⟨k, v, ⟨hl, hw⟩, rfl⟩ := hI
      refine semG_n ?_
      simp only [List.set_cons_zero, List.set_cons_succ]
      unfold b__law_comment_f0
      refine set_1 (bin_is (Is.var (d := .str (Sl (35 :: k))) rfl _ _ (sign_in ch_l.2 (Is.var rfl) (fun Q hQ => dg (call__law_digit _) rfl (m := ch.length) (by omega) (Is.lenS (Is.var rfl) ch_l.2) hQ) fun c hc => ?_)))
      refine ⟨Nat.le_trans (show (Sl (35 :: k)).length + (Sl [c]).length ≤ 1000 by rw [Sl_len, Sl_len]; simp; omega) (by decide), ?_⟩
      rw [Sl_app]
      simp only [List.set_cons_zero, List.set_cons_succ]
      refine nil_1 (M := p.sm (n + 2)) (hN' _ ⟨k ++ [c], _, ⟨by rw [List.length_append, List.length_singleton]; omega, fun x hx => ?_⟩, rfl⟩)
      rcases List.mem_append.mp hx with z | z
      · exact hw x z
      · rw [List.mem_singleton.mp z]; exact ch_s c hc
    · obtain ⟨k, v, ⟨hl, hw⟩, rfl⟩ := hI
      exact hN _ ⟨k, v, ⟨by omega, hw⟩, rfl⟩
  · rintro ρ ⟨k, v, ⟨h1, hw⟩, rfl⟩
    refine ret_1 (Is.catS (Is.var rfl) Is.cst (by rw [Sl_len, nl_S, Sl_len]; simp; omega) _ _ ?_)
    rw [nl_S, Sl_app]
    exact q k h1 hw
theorem law_blanks_ok {t : Int} (ht : 0 ≤ t ∧ t ≤ 1) (q : ∀ b : List Nat, t ≤ b.length → b.length ≤ 3 → (∀ c ∈ b, blk c = true) → P (.str (Sl b))) : wF 2 4 (semB (p.sm (n + 2)) b__law_blanks) [.cell 2, .int t] P E := by
  refine wF_of rfl ?_
  unfold b__law_blanks
  show semB _ _ _ [.val (.cell 2), .val (.int t), .emp, .emp]
  refine set_1 (Is.cst _ _ ?_)
  simp only [List.set_cons_zero, List.set_cons_succ]
  refine semB_c (seq_mid (J := fun ρ => ∃ (b : List Nat) (v : Tr.Slot), (t ≤ b.length ∧ b.length ≤ 3 ∧ ∀ c ∈ b, blk c = true) ∧ ρ = [.val (.cell 2), .val (.int t), .val (.str (Sl b)), v]) (fun N hN => sfor_any (bin_is (Is.var rfl _ _ (dg (call__law_digit _) rfl (m := 3) (by decide) Is.cst fun u u0 u1 => ?_)))) ?_)
  · simp only [binD]
    rw [dAdd_i]
    refine ⟨by unfold small62; omega, ?_⟩
    refine for_rg (fun j ρ => ∃ (b : List Nat) (v : Tr.Slot), ((b.length : Int) = j ∧ ∀ c ∈ b, blk c = true) ∧ ρ = [.val (.cell 2), .val (.int t), .val (.str (Sl b)), v]) (by omega) ⟨[], _, ⟨rfl, fun _ z => nomatch z⟩, by rw [show ("" : Str) = Sl [] by decide +kernel]⟩ (fun j j0 j1 ρ N' hI hN' => ?_) fun ρ hI => ?_
    · obtain ⟨b, v, ⟨hl, hw⟩, rfl⟩ := hI
      refine semG_n ?_
      simp only [List.set_cons_zero, List.set_cons_succ]
      unfold b__law_blanks_f0
      refine set_1 (bin_is (Is.var (d := .str (Sl b)) rfl _ _ (sign_in (x := " \t") (by decide +kernel) Is.cst (fun Q hQ => dg (call__law_digit _) rfl (m := 2) (by decide) Is.cst fun r r0 r1 => hQ r r0 (by rw [show (" \t" : Str).length = 2 by decide +kernel]; exact r1)) fun c hc => ?_)))
      refine ⟨Nat.le_trans (show (Sl b).length + (Sl [c]).length ≤ 1000 by rw [Sl_len, Sl_len]; simp; omega) (by decide), ?_⟩
      rw [Sl_app]
      simp only [List.set_cons_zero, List.set_cons_succ]
      refine nil_1 (M := p.sm (n + 2)) (hN' _ ⟨b ++ [c], _, ⟨by rw [List.length_append, List.length_singleton]; omega, fun x hx => ?_⟩, rfl⟩)
      rcases List.mem_append.mp hx with z | z
      · exact hw x z
      · rw [List.mem_singleton.mp z]
        have t : ∀ c ∈ (" \t" : Str).cps.toList, blk c = true := by decide +kernel
        exact t c hc
    · obtain ⟨b, v, ⟨hl, hw⟩, rfl⟩ := hI
      exact hN _ ⟨b, v, ⟨by omega, by omega, hw⟩, rfl⟩
  · rintro ρ ⟨b, v, ⟨h1, h2, hw⟩, rfl⟩
    exact ret_1 (Is.var (d := .str (Sl b)) rfl _ _ (q b h1 h2 hw))
end
/-! ### the text, built -/
theorem blk_ok {c : Nat} (h : blk c = true) : c ≠ 35 ∧ c ≠ 10 := by
  unfold blk at h
  rcases (Bool.or_eq_true _ _).mp h with z | z <;> rw [beq_iff_eq.mp z] <;> decide
theorem wch_ok {c : Nat} (h : wch c = true) : dlm c = false ∧ c ≠ 35 ∧ c ≠ 10 ∧ c < 128 := by
  unfold wch at h
  rw [Bool.and_eq_true, Bool.and_eq_true, Bool.and_eq_true] at h
  refine ⟨by simpa using h.1.1.1, by simpa using h.1.1.2, by simpa using h.1.2, by simpa using h.2⟩
/-- the rows so far, the last one under way -/
structure Bd (k : Nat) (rs : List Row) (cur : List Nat) (aw : Bool) : Prop where
  r : ∀ r ∈ rs, RowOk r ∧ r.c.length ≤ 400 ∧ (rowS r).length ≤ 1000
  c : ∀ x ∈ cur, x ≠ 35 ∧ x ≠ 10
  l : cur.length ≤ 10 * k
  t : (Txt.join "\n" ((rs ++ [(⟨cur, []⟩ : Row)]).map rowS)).length ≤ 10 * k
  d : (rT 1 (rs ++ [⟨cur, []⟩])).length ≤ k
  o : ∀ t ∈ rT 1 (rs ++ [⟨cur, []⟩]), ∀ c ∈ t.1, c < 128
  a : aw = false → (scn ((rs.length : Int) + 1) cur).buf = []
def txt (rs : List Row) (cur : List Nat) : Str := Txt.join "\n" ((rs ++ [(⟨cur, []⟩ : Row)]).map rowS)
def due (rs : List Row) (cur : List Nat) : List Tok := rT 1 (rs ++ [(⟨cur, []⟩ : Row)])
theorem row_nil (cur : List Nat) : rowS ⟨cur, []⟩ = Sl cur := by unfold rowS; rw [List.append_nil]
theorem txt_more (rs : List Row) (cur w : List Nat) : txt rs (cur ++ w) = txt rs cur ++ Sl w := by
  unfold txt
  rw [List.map_append, List.map_append, List.map_singleton, List.map_singleton, row_nil, row_nil, ← Sl_app, join_more]
theorem txt_next (rs : List Row) (cur t : List Nat) : txt (rs ++ [(⟨cur, t⟩ : Row)]) [] = txt rs cur ++ Sl (t ++ [10]) := by
  unfold txt
  rw [List.map_append, List.map_append, List.map_append, List.map_singleton, List.map_singleton, List.map_singleton, row_nil, row_nil, join_next]
  have : rowS ⟨cur, t⟩ = Sl cur ++ Sl t := by rw [Sl_app]; rfl
  rw [this, join_more, nl_S, ← Sl_app]
  exact congrArg Str.mk (Array.append_assoc ..)
theorem due_eq (rs : List Row) (cur : List Nat) : due rs cur = rT 1 rs ++ toks ((rs.length : Int) + 1) cur := by
  unfold due
  rw [rT_snoc]
  congr 2
  omega
theorem due_next (rs : List Row) (cur t : List Nat) : due (rs ++ [(⟨cur, t⟩ : Row)]) [] = due rs cur := by
  rw [due_eq, due_eq, rT_snoc]
  have : toks (((rs ++ [(⟨cur, t⟩ : Row)]).length : Int) + 1) [] = [] := rfl
  rw [this, List.append_nil]
  congr 2
  omega
section
variable {n : Nat} {P : D → Prop} {E : Exc → Prop} {ns : List Int}
theorem build_step {k : Nat} {rs : List Row} {cur : List Nat} {aw : Bool} {v7 v8 v9 v10 : Tr.Slot} {A : EndsD} (hk : k < 40) (hns : ns.length ≤ 63) (h : Bd k rs cur aw)
    (q : ∀ rs cur aw v7 v8 v9 v10, Bd (k + 1) rs cur aw → A.nx [.val (.lst (ns.map .int)), .val (.str (txt rs cur)), .own (.lst ((due rs cur).map tkD)), .val (.int ((rs.length : Int) + 1)), .val (.int ((cur.length : Int) + 1)), .val (.bl aw), .val (.int k), v7, v8, v9, v10]) :
    semB (p.sm (n + 3)) b__law_build_f0 A [.val (.lst (ns.map .int)), .val (.str (txt rs cur)), .own (.lst ((due rs cur).map tkD)), .val (.int ((rs.length : Int) + 1)), .val (.int ((cur.length : Int) + 1)), .val (.bl aw), .val (.int k), v7, v8, v9, v10] := by
  unfold b__law_build_f0
  have hl := h.l
  have ht : (txt rs cur).length ≤ 10 * k := h.t
  have hd : (due rs cur).length ≤ k := h.d
  refine set_1 (call_is (ds := [.lst (ns.map .int), .int ((k : Int) + 1), .int 1]) (IsA.cons (Is.var rfl) (IsA.cons (Is.add (Is.var rfl) Is.cst) (IsA.cons Is.cst IsA.nil))) ?_)
  rw [call__law_digits]
  refine law_digits_ok (by omega) (by omega) hns ?_
  simp only [List.set_cons_zero, List.set_cons_succ]
  refine set_1 (dg (call__law_digit _) rfl (m := 7) (by decide) Is.cst fun kind kd0 kd1 => ?_)
  simp only [List.set_cons_zero, List.set_cons_succ]
  refine set_1 (call_is (ds := [.cell 2, .int (if (aw && decide (kind < 3)) = true then 1 else 0)]) (IsA.cons (Is.var rfl) (IsA.cons (fun P E q => blt_is (IsA.cons (Is.andB (Is.var rfl) fun _ => Is.ltB (Is.var rfl) Is.cst) IsA.nil) (by show bInt [.bl _] P E; rw [bInt_b]; exact q)) IsA.nil)) ?_)
  rw [call__law_blanks]
  refine law_blanks_ok (by split <;> omega) fun bs b1 b2 hb => ?_
  simp only [List.set_cons_zero, List.set_cons_succ]
  refine set_1 (Is.catS (Is.var rfl) (Is.var rfl) (by rw [Sl_len bs]; omega) _ _ ?_)
  simp only [List.set_cons_zero, List.set_cons_succ]
  refine set_1 (Is.add (Is.var rfl) (Is.lenS (Is.var rfl) (by rw [Sl_len bs]; omega)) _ _ ?_)
  simp only [List.set_cons_zero, List.set_cons_succ]
  refine set_1 (Is.ltB (Is.var rfl) Is.cst _ _ ?_)
  simp only [List.set_cons_zero, List.set_cons_succ]
  rw [← txt_more, Sl_len bs]
  have cb : ∀ x ∈ cur ++ bs, x ≠ 35 ∧ x ≠ 10 := fun x hx => by
    rcases List.mem_append.mp hx with z | z
    · exact h.c x z
    · exact blk_ok (hb x z)
  have tb : (txt rs (cur ++ bs)).length ≤ 10 * k + 3 := by
    rw [txt_more]
    show (Str.append _ _).length ≤ _
    rw [show (Str.append (txt rs cur) (Sl bs)).length = _ from catS_len _ _, Sl_len bs]
    omega
  -- a word or a brace
  have wd : ∀ (w : List Nat) (v8 : Tr.Slot), w.length ≤ 7 → (∀ c ∈ w, c ≠ 35 ∧ c ≠ 10 ∧ c < 128) → toks ((rs.length : Int) + 1) (cur ++ bs ++ w) = toks ((rs.length : Int) + 1) cur ++ [(w, (rs.length : Int) + 1, (cur.length : Int) + bs.length + 1)] → (decide (kind < 3) = false → (scn ((rs.length : Int) + 1) (cur ++ bs ++ w)).buf = []) →
      semB (p.sm (n + 3)) [.app 2 (.tup [.var 10, .var 3, .var 4]), .set (.nm 1) (.bin .Add (.var 1) (.var 10)), .set (.nm 4) (.bin .Add (.var 4) (.blt .len [.var 10]))] A [.val (.lst (ns.map .int)), .val (.str (txt rs (cur ++ bs))), .own (.lst ((due rs cur).map tkD)), .val (.int ((rs.length : Int) + 1)), .val (.int ((cur.length : Int) + 1 + bs.length)), .val (.bl (decide (kind < 3))), .val (.int k), .val (.cell 2), .val (.int kind), .val (.str (Sl bs)), .val (.str (Sl w))] := fun w v8 lw cw et eb => by
    refine app_1 (d := tkD (w, (rs.length : Int) + 1, (cur.length : Int) + bs.length + 1)) rfl (Is.to (Is.tup (IsA.cons (Is.var rfl) (IsA.cons (Is.var rfl) (IsA.cons (Is.var rfl) IsA.nil))) (by simp)) (by rw [show (cur.length : Int) + 1 + bs.length = (cur.length : Int) + bs.length + 1 by omega]; rfl)) (by rw [List.length_map]; omega) ?_
    simp only [List.set_cons_zero, List.set_cons_succ]
    have ed : due rs (cur ++ bs ++ w) = due rs cur ++ [(w, (rs.length : Int) + 1, (cur.length : Int) + bs.length + 1)] := by rw [due_eq, due_eq, et, List.append_assoc]
    rw [tk_more, ← ed]
    refine set_1 (Is.catS (Is.var rfl) (Is.var rfl) (by rw [Sl_len w]; omega) _ _ ?_)
    simp only [List.set_cons_zero, List.set_cons_succ]
    refine set_1 (Is.add (Is.var rfl) (Is.lenS (Is.var rfl) (by rw [Sl_len w]; omega)) _ _ ?_)
    simp only [List.set_cons_zero, List.set_cons_succ]
    rw [← txt_more, Sl_len w]
    have ec : (cur.length : Int) + 1 + bs.length + w.length = ((cur ++ bs ++ w).length : Int) + 1 := by rw [List.length_append, List.length_append]; omega
    rw [ec]
    refine nil_1 (M := p.sm (n + 3)) (q rs (cur ++ bs ++ w) _ _ _ _ _ ⟨h.r, fun x hx => ?_, by rw [List.length_append, List.length_append]; omega, ?_, ?_, ?_, eb⟩)
    · rcases List.mem_append.mp hx with z | z
      · exact cb x z
      · exact ⟨(cw x z).1, (cw x z).2.1⟩
    · show (txt rs (cur ++ bs ++ w)).length ≤ _
      rw [txt_more, catS_len, Sl_len w]
      omega
    · show (due rs (cur ++ bs ++ w)).length ≤ _
      rw [ed, List.length_append, List.length_singleton]
      omega
    · show ∀ t ∈ due rs (cur ++ bs ++ w), _
      rw [ed]
      intro t ht
      rcases List.mem_append.mp ht with z | z
      · exact h.o t z
      · rw [List.mem_singleton.mp z]
        exact fun c hc => (cw c hc).2.2
  refine iff_b (IsT.lt (Is.var rfl) Is.cst) (fun z5 => ?_) fun z5 => ?_
  · have z5 := of_decide_eq_true z5
    have kk : kind = 0 ∨ kind = 1 ∨ kind = 2 ∨ kind = 3 ∨ kind = 4 := by omega
    have pick : ∀ s : Str, L2.atI [D.str "", D.str "", D.str "", D.str "{", D.str "}"] kind = some (.str s) → ∀ {A : EndsD} {r : List IS} {v10 : Tr.Slot}, semB (p.sm (n + 3)) r A [.val (.lst (ns.map .int)), .val (.str (txt rs (cur ++ bs))), .own (.lst ((due rs cur).map tkD)), .val (.int ((rs.length : Int) + 1)), .val (.int ((cur.length : Int) + 1 + bs.length)), .val (.bl (decide (kind < 3))), .val (.int k), .val (.cell 2), .val (.int kind), .val (.str (Sl bs)), .val (.str s)] →
        semB (p.sm (n + 3)) (.set (.nm 10) (.ix (.lst [.cst (.str ""), .cst (.str ""), .cst (.str ""), .cst (.str "{"), .cst (.str "}")]) (.var 8)) :: r) A [.val (.lst (ns.map .int)), .val (.str (txt rs (cur ++ bs))), .own (.lst ((due rs cur).map tkD)), .val (.int ((rs.length : Int) + 1)), .val (.int ((cur.length : Int) + 1 + bs.length)), .val (.bl (decide (kind < 3))), .val (.int k), .val (.cell 2), .val (.int kind), .val (.str (Sl bs)), v10] := fun s hs A r v10 h => by
      refine set_1 (Is.ix (Is.lst (IsA.cons Is.cst (IsA.cons Is.cst (IsA.cons Is.cst (IsA.cons Is.cst (IsA.cons Is.cst IsA.nil))))) (by simp)) (Is.var rfl) hs _ _ ?_)
      simp only [List.set_cons_zero, List.set_cons_succ]
      exact h
    have brace : ∀ (c : Nat) (s : Str), s = Sl [c] → brc c = true → (c ≠ 35 ∧ c ≠ 10 ∧ c < 128) → 3 ≤ kind → L2.atI [D.str "", D.str "", D.str "", D.str "{", D.str "}"] kind = some (.str s) →
        semB (p.sm (n + 3)) [.set (.nm 10) (.ix (.lst [.cst (.str ""), .cst (.str ""), .cst (.str ""), .cst (.str "{"), .cst (.str "}")]) (.var 8)), .iff (.cmp .Lt (.var 8) (.cst (.int 3))) [.set (.nm 10) (.call 6 [.var 7])] [], .app 2 (.tup [.var 10, .var 3, .var 4]), .set (.nm 1) (.bin .Add (.var 1) (.var 10)), .set (.nm 4) (.bin .Add (.var 4) (.blt .len [.var 10]))] A [.val (.lst (ns.map .int)), .val (.str (txt rs (cur ++ bs))), .own (.lst ((due rs cur).map tkD)), .val (.int ((rs.length : Int) + 1)), .val (.int ((cur.length : Int) + 1 + bs.length)), .val (.bl (decide (kind < 3))), .val (.int k), .val (.cell 2), .val (.int kind), .val (.str (Sl bs)), v10] := fun c s es hc hn z3 hs => by
      refine pick s hs ?_
      refine iff_f0 ((IsT.lt (Is.var rfl) Is.cst).to (decide_eq_false (by omega))) ?_
      subst es
      exact wd [c] (.val (.int kind)) (by simp) (fun x hx => by rw [List.mem_singleton.mp hx]; exact hn) (toks_brc hb hc) fun _ => buf_brc hc
    rcases Int.lt_or_le kind 3 with z3 | z3
    · have at0 : L2.atI [D.str "", D.str "", D.str "", D.str "{", D.str "}"] kind = some (.str "") := by
        have : kind = 0 ∨ kind = 1 ∨ kind = 2 := by omega
        rcases this with rfl | rfl | rfl <;> rfl
      refine pick "" at0 ?_
      have lt : (decide (kind < 3)) = true := decide_eq_true z3
      refine semB_c (seq_mid (J := fun ρ => ∃ w : List Nat, (1 ≤ w.length ∧ w.length ≤ 7 ∧ ∀ c ∈ w, wch c = true) ∧ ρ = [.val (.lst (ns.map .int)), .val (.str (txt rs (cur ++ bs))), .own (.lst ((due rs cur).map tkD)), .val (.int ((rs.length : Int) + 1)), .val (.int ((cur.length : Int) + 1 + bs.length)), .val (.bl (decide (kind < 3))), .val (.int k), .val (.cell 2), .val (.int kind), .val (.str (Sl bs)), .val (.str (Sl w))]) (fun N hN => semS_b (iff_t ((IsT.lt (Is.var rfl) Is.cst).to lt) (set_1 (call_is (ds := [.cell 2]) (IsA.cons (Is.var rfl) IsA.nil) ?_)))) ?_)
      · rw [call__law_word]
        refine law_word_ok fun w w1 w2 hw => ?_
        simp only [List.set_cons_zero, List.set_cons_succ]
        exact nil_1 (M := p.sm (n + 3)) (nil_1 (M := p.sm (n + 3)) (hN _ ⟨w, ⟨w1, w2, hw⟩, rfl⟩))
      · rintro ρ ⟨w, ⟨w1, w2, hw⟩, rfl⟩
        refine wd w (.val (.int kind)) w2 (fun c hc => (wch_ok (hw c hc)).2) (toks_wrd hb (fun c hc => (wch_ok (hw c hc)).1) (fun z => by rw [z] at w1; simp at w1) ?_) fun z => by rw [lt] at z; cases z
        cases aw with
        | false => exact .inl (h.a rfl)
        | true =>
          refine .inr fun z => ?_
          rw [z, lt] at b1
          simp at b1
    · have : kind = 3 ∨ kind = 4 := by omega
      rcases this with e | e
      · exact brace 123 "{" (by decide +kernel) (by decide) (by decide) z3 (by rw [e]; rfl)
      · exact brace 125 "}" (by decide +kernel) (by decide) (by decide) z3 (by rw [e]; rfl)
  · have z5 := of_decide_eq_false z5
    refine set_1 (Is.cst _ _ ?_)
    simp only [List.set_cons_zero, List.set_cons_succ]
    refine semB_c (seq_mid (J := fun ρ => ∃ t : List Nat, (t.length ≤ 6 ∧ (∀ c ∈ t, c ≠ 10) ∧ (t = [] ∨ ∃ k, t = 35 :: k)) ∧ ρ = [.val (.lst (ns.map .int)), .val (.str (txt rs (cur ++ bs))), .own (.lst ((due rs cur).map tkD)), .val (.int ((rs.length : Int) + 1)), .val (.int ((cur.length : Int) + 1 + bs.length)), .val (.bl (decide (kind < 3))), .val (.int k), .val (.cell 2), .val (.int kind), .val (.str (Sl bs)), .val (.str (Sl (t ++ [10])))]) (fun N hN => semS_b (iff_b (IsT.eq (Is.var rfl) Is.cst) (fun _ => set_1 (call_is (ds := [.cell 2]) (IsA.cons (Is.var rfl) IsA.nil) ?_)) fun _ => nil_1 (M := p.sm (n + 3)) (nil_1 (M := p.sm (n + 3)) (hN _ ⟨[], ⟨by simp, (fun _ z => nomatch z), .inl rfl⟩, by rw [nl_S]; rfl⟩)))) ?_)
    · rw [call__law_comment]
      refine law_comment_ok fun t t1 ht => ?_
      simp only [List.set_cons_zero, List.set_cons_succ]
      refine nil_1 (M := p.sm (n + 3)) (nil_1 (M := p.sm (n + 3)) (hN _ ⟨35 :: t, ⟨by simp; omega, fun c hc => ?_, .inr ⟨t, rfl⟩⟩, rfl⟩))
      rcases List.mem_cons.mp hc with z | z
      · rw [z]; decide
      · exact ht c z
    · rintro ρ ⟨t, ⟨t1, t2, t3⟩, rfl⟩
      refine set_1 (Is.catS (Is.var rfl) (Is.var rfl) (by rw [Sl_len (t ++ [10]), List.length_append, List.length_singleton]; omega) _ _ ?_)
      simp only [List.set_cons_zero, List.set_cons_succ]
      refine set_1 (Is.add (Is.var rfl) Is.cst _ _ ?_)
      simp only [List.set_cons_zero, List.set_cons_succ]
      refine set_1 (Is.cst _ _ ?_)
      simp only [List.set_cons_zero, List.set_cons_succ]
      have ed : due rs cur = due (rs ++ [(⟨cur ++ bs, t⟩ : Row)]) [] := by rw [due_next, due_eq, due_eq, toks_blk hb]
      have el : (rs.length : Int) + 1 + 1 = ((rs ++ [(⟨cur ++ bs, t⟩ : Row)]).length : Int) + 1 := by rw [List.length_append, List.length_singleton]; omega
      rw [← txt_next, ed, el]
      refine nil_1 (M := p.sm (n + 3)) (q (rs ++ [(⟨cur ++ bs, t⟩ : Row)]) [] _ _ _ _ _ ⟨fun r hr => ?_, (fun _ z => nomatch z), Nat.zero_le _, ?_, ?_, ?_, fun _ => rfl⟩)
      · rcases List.mem_append.mp hr with z | z
        · exact h.r r z
        · rw [List.mem_singleton.mp z]
          refine ⟨⟨cb, t2, t3⟩, by show (cur ++ bs).length ≤ 400; rw [List.length_append]; omega, ?_⟩
          show (Sl (cur ++ bs ++ t)).length ≤ 1000
          rw [Sl_len, List.length_append, List.length_append]
          omega
      · show (txt (rs ++ [(⟨cur ++ bs, t⟩ : Row)]) []).length ≤ _
        rw [txt_next, catS_len, Sl_len (t ++ [10]), List.length_append, List.length_singleton]
        omega
      · show (due (rs ++ [(⟨cur ++ bs, t⟩ : Row)]) []).length ≤ _
        rw [← ed]
        omega
      · show ∀ x ∈ due (rs ++ [(⟨cur ++ bs, t⟩ : Row)]) [], _
        rw [← ed]
        exact h.o
theorem law_build_ok (hns : ns.length ≤ 63) (q : ∀ rs cur aw, Bd 40 rs cur aw → P (.tup [.str (txt rs cur), .lst ((due rs cur).map tkD)])) : wF 1 11 (semB (p.sm (n + 3)) b__law_build) [.lst (ns.map .int)] P E := by
  refine wF_of rfl ?_
  unfold b__law_build
  show semB _ _ _ [.val (.lst (ns.map .int)), .emp, .emp, .emp, .emp, .emp, .emp, .emp, .emp, .emp, .emp]
  refine set_1 (Is.cst _ _ ?_)
  simp only [List.set_cons_zero, List.set_cons_succ]
  refine new_1 (ds := []) (Is.lst IsA.nil (by simp)) ?_
  simp only [List.set_cons_zero, List.set_cons_succ]
  refine set_1 (Is.cst _ _ ?_)
  simp only [List.set_cons_zero, List.set_cons_succ]
  refine set_1 (Is.cst _ _ ?_)
  simp only [List.set_cons_zero, List.set_cons_succ]
  refine set_1 (Is.cst _ _ ?_)
  simp only [List.set_cons_zero, List.set_cons_succ]
  have e0 : ("" : Str) = txt [] [] := by rw [show ("" : Str) = Sl [] by decide +kernel]; rfl
  rw [e0]
  refine semB_c (seq_mid (J := fun ρ => ∃ (rs : List Row) (cur : List Nat) (aw : Bool) (v6 v7 v8 v9 v10 : Tr.Slot), Bd 40 rs cur aw ∧ ρ = [.val (.lst (ns.map .int)), .val (.str (txt rs cur)), .own (.lst ((due rs cur).map tkD)), .val (.int ((rs.length : Int) + 1)), .val (.int ((cur.length : Int) + 1)), .val (.bl aw), v6, v7, v8, v9, v10]) (fun N hN => sfor_any (bin_is (call_is (ds := [.lst (ns.map .int), .int 0]) (IsA.cons (Is.var rfl) (IsA.cons Is.cst IsA.nil)) ?_))) ?_)
  · rw [call__law_number]
    refine law_number_ok (by omega) hns fun z z0 => Is.cst _ _ ?_
    simp only [binD]
    rw [dMod_i]
    have mb := mod_bd z 40 (by decide)
    refine ⟨by decide, ⟨by unfold small62; omega, ?_⟩⟩
    generalize z % 40 = m at mb
    refine for_rg (fun k ρ => ∃ (rs : List Row) (cur : List Nat) (aw : Bool) (v6 v7 v8 v9 v10 : Tr.Slot), Bd k.toNat rs cur aw ∧ ρ = [.val (.lst (ns.map .int)), .val (.str (txt rs cur)), .own (.lst ((due rs cur).map tkD)), .val (.int ((rs.length : Int) + 1)), .val (.int ((cur.length : Int) + 1)), .val (.bl aw), v6, v7, v8, v9, v10]) mb.1 ⟨[], [], false, _, _, _, _, _, ⟨(fun _ z => nomatch z), (fun _ z => nomatch z), Nat.le_refl _, Nat.le_refl _, Nat.le_refl _, (fun _ z => nomatch z), fun _ => rfl⟩, rfl⟩ (fun k k0 k1 ρ N' hI hN' => ?_) fun ρ hI => ?_
    · obtain ⟨rs, cur, aw, v6, v7, v8, v9, v10, hb, rfl⟩ := hI
      refine semG_n ?_
      simp only [List.set_cons_zero, List.set_cons_succ]
      obtain ⟨j, rfl⟩ : ∃ j : Nat, k = j := ⟨k.toNat, by omega⟩
      exact build_step (by omega) hns hb fun rs cur aw v7 v8 v9 v10 h => hN' _ ⟨rs, cur, aw, _, v7, v8, v9, v10, h, rfl⟩
    · obtain ⟨rs, cur, aw, v6, v7, v8, v9, v10, hb, rfl⟩ := hI
      have lm : m.toNat ≤ 40 := by omega
      exact hN _ ⟨rs, cur, aw, v6, v7, v8, v9, v10, ⟨hb.r, hb.c, Nat.le_trans hb.l (by omega), Nat.le_trans hb.t (by omega), Nat.le_trans hb.d lm, hb.o, hb.a⟩, rfl⟩
  · rintro ρ ⟨rs, cur, aw, v6, v7, v8, v9, v10, hb, rfl⟩
    refine frz_1 (ds := (due rs cur).map tkD) rfl ?_
    simp only [List.set_cons_zero, List.set_cons_succ]
    exact ret_1 (Is.tup (IsA.cons (Is.var rfl) (IsA.cons (Is.var rfl) IsA.nil)) (by simp) _ _ (q rs cur aw hb))
end
theorem tkD_pl {t : Tok} (h : ∀ c ∈ t.1, c < 128) : PL 60 (tkD t) := (PL.tup (n := 0) fun y hy => by
  simp only [List.mem_cons, List.not_mem_nil, or_false] at hy
  rcases hy with rfl | rfl | rfl
  · refine PL.str (SOk.str (n := t.1.length) ⟨by rw [Sl_len]; exact Nat.le_refl _, fun k hk => ?_⟩)
    have hk : k ∈ t.1 := by simpa using hk
    have := h k hk
    omega
  · exact PL.int
  · exact PL.int).mono (by decide)
theorem is_int_yes {M : Sm} {i : Int} {P : D → Prop} {E : Exc → Prop} (q : P (.bl true)) : wF 1 1 (semB M b__law_is_integer) [.int i] P E := is_int_ok' q
theorem law_holds : ∀ ns : List Int, ns.length ≤ 63 → (p.sm 5).sem 10 [.lst (ns.map .int)] (fun d => d = .bl true) (fun _ => False) := by
  intro ns hns
  rw [call_law 3]
  refine wF_of rfl ?_
  unfold b_law
  show semB _ _ _ [.val (.lst (ns.map .int)), .emp, .emp, .emp, .emp]
  refine set_g (call_is (ds := [.lst (ns.map .int)]) (IsA.cons (Is.var rfl) IsA.nil) ?_)
  rw [call__law_build]
  refine law_build_ok hns fun rs cur aw hb => semG_2 ?_
  simp only [List.set_cons_zero, List.set_cons_succ]
  have hr : ∀ r ∈ rs ++ [(⟨cur, []⟩ : Row)], RowOk r ∧ r.c.length ≤ 400 ∧ (rowS r).length ≤ 1000 := fun r h => by
    rcases List.mem_append.mp h with z | z
    · exact hb.r r z
    · rw [List.mem_singleton.mp z]
      have := hb.l
      exact ⟨⟨hb.c, (fun _ z => nomatch z), .inl rfl⟩, by show cur.length ≤ 400; omega, by rw [row_nil, Sl_len]; omega⟩
  have hd : (due rs cur).length ≤ 40 := hb.d
  have ho : ∀ t ∈ due rs cur, ∀ c ∈ t.1, c < 128 := hb.o
  refine set_1 (Is.call (v := .lst ((due rs cur).map tkD)) (IsA.cons (Is.var rfl) IsA.nil) (fun P E q => by rw [call_split_words]; exact split_words_ok (rs := rs ++ [(⟨cur, []⟩ : Row)]) hr (by simp) (by have := hb.t; omega) (by have := hb.d; omega) q) _ _ ?_)
  simp only [List.set_cons_zero, List.set_cons_succ]
  generalize due rs cur = ts at hd ho ⊢
  have ll : (ts.map tkD).length = ts.length := List.length_map ..
  refine iff_f0 ((IsT.or (IsT.not (b := true) (IsT.val fun P E q => ?_)) fun _ => IsT.ne (Is.len (Is.var rfl) (by omega)) (Is.len (Is.var rfl) (by omega))).to (by simp)) ?_
  · simp only [semE, w1]
    refine Is.var (M := p.sm 4) (d := .lst (ts.map tkD)) rfl _ _ ?_
    exact ⟨show L2.kitB "list" "list" = some true by decide +kernel, q⟩
  refine semB_c (seq_mid (J := fun _ => True) (fun N hN => sfor_r (n := (ts.length : Int)) (Is.to (Is.len (Is.var rfl) (by omega)) (by rw [ll])) (by unfold small62; omega) ?_) fun ρ _ => ret_1 (Is.cst _ _ rfl))
  refine for_rg (fun _ ρ => ∃ v4 : Tr.Slot, ρ = [.val (.lst (ns.map .int)), .val (.str (txt rs cur)), .val (.lst (ts.map tkD)), .val (.lst (ts.map tkD)), v4]) (by omega) ⟨_, rfl⟩ (fun k k0 k1 ρ N' hI hN' => ?_) fun ρ _ => hN ρ trivial
  obtain ⟨v4, rfl⟩ := hI
  refine semG_n ?_
  simp only [List.set_cons_zero, List.set_cons_succ]
  unfold b_law_f0
  have at_ := atI_map (f := tkD) (xs := ts) (([], 0, 0) : Tok) k0 k1
  have hm := ho _ (getD_mem (xs := ts) (([], 0, 0) : Tok) k0 k1)
  generalize ts.getD k.toNat (([], 0, 0) : Tok) = t at at_ hm
  have ix : ∀ {i : Nat} {v0 v1 : Tr.Slot}, i = 2 ∨ i = 3 → Is (p.sm 4) (.ix (.var i) (.var 4)) [v0, v1, .val (.lst (ts.map tkD)), .val (.lst (ts.map tkD)), .val (.int k)] (tkD t) := fun hi => by
    rcases hi with rfl | rfl <;> exact Is.ix (Is.var rfl) (Is.var rfl) at_
  refine iff_f0 ((IsT.or (IsT.not (b := true) (IsT.val fun P E q => ?_)) fun _ => IsT.neSame (ix (.inr rfl)) (ix (.inl rfl)) (tkD_pl hm)).to rfl) ?_
  · simp only [semE, w1]
    refine ix (.inr rfl) _ _ ?_
    exact ⟨show L2.kitB "tuple" "tuple" = some true by decide +kernel, q⟩
  refine iff_f0 ((IsT.or (IsT.not (IsT.val (b := true) (Is.call (IsA.cons (Is.ixT (d := .int t.2.1) (ix (.inr rfl)) Is.cst rfl) IsA.nil) fun P E q => by rw [call__law_is_integer]; exact is_int_yes q))) fun _ => IsT.not (IsT.val (b := true) (Is.call (IsA.cons (Is.ixT (d := .int t.2.2) (ix (.inr rfl)) Is.cst rfl) IsA.nil) fun P E q => by rw [call__law_is_integer]; exact is_int_yes q))).to rfl) ?_
  exact nil_1 (M := p.sm 4) (hN' _ ⟨_, rfl⟩)
end Lk50

open PySem PySem.W PyProof.Rows
set_option maxHeartbeats 0 in
theorem PySem.Challenge.cw_armwarrant_k50_words_of_a_text_holds : PySem.Challenge.rw_armwarrant_k50_words_of_a_text.Holds := by
  w_on; o_law; k_head; (case hw => w_witness2)
  k_fill
  refine L2.walk_of (l := PySem.Challenge.rw_armwarrant_k50_words_of_a_text) (n := 63) (k := 5) (x := "script") (CX := fun w => L2.CX PySem.Challenge.rw_armwarrant_k50_words_of_a_text.prog w) (sp := fun w => Tr.spEnd _) rfl (by decide) rfl ⟨rfl, by decide, by decide⟩ (fun w h Y => PySem.W.kIn_of Y) ?F (fun _ _ a ns hl _ hS => ⟨a, ns, rfl, hl, (fun q h => nomatch h), hS, fun _ => rfl⟩) (fun _ _ _ _ _ h => Tr.cx_no h)
  case F =>
    intro w mg fa h KX G hmg
    refine' Tr.endE Lk50.law_holds (Lk50.law_fn (w := w) KX G hmg ?a_split_words ?l_split_words ?c_split_words ?k_split_words ?a__words_of_row ?l__words_of_row ?c__words_of_row ?k__words_of_row ?a__law_number ?l__law_number ?c__law_number ?k__law_number ?a__law_digits ?l__law_digits ?c__law_digits ?k__law_digits ?a__law_digit ?l__law_digit ?c__law_digit ?k__law_digit ?a__law_is_integer ?l__law_is_integer ?c__law_is_integer ?k__law_is_integer ?a__law_word ?l__law_word ?c__law_word ?k__law_word ?a__law_comment ?l__law_comment ?c__law_comment ?k__law_comment ?a__law_blanks ?l__law_blanks ?c__law_blanks ?k__law_blanks ?a__law_build ?l__law_build ?c__law_build ?k__law_build ?a_law ?l_law ?c_law ?k_law ?hn ?htk ?z_bool ?z_enumerate ?z_int ?z_isinstance ?z_len ?z_list ?z_range ?z_tuple)
    (case a_split_words => k_is); (case l_split_words => k_is); (case c_split_words => k_is); (case k_split_words => k_is); (case a__words_of_row => k_is); (case l__words_of_row => k_is)
    (case c__words_of_row => k_is); (case k__words_of_row => k_is); (case a__law_number => k_is); (case l__law_number => k_is); (case c__law_number => k_is); (case k__law_number => k_is)
    (case a__law_digits => k_is); (case l__law_digits => k_is); (case c__law_digits => k_is); (case k__law_digits => k_is); (case a__law_digit => k_is); (case l__law_digit => k_is)
    (case c__law_digit => k_is); (case k__law_digit => k_is); (case a__law_is_integer => k_is); (case l__law_is_integer => k_is); (case c__law_is_integer => k_is); (case k__law_is_integer => k_is)
    (case a__law_word => k_is); (case l__law_word => k_is); (case c__law_word => k_is); (case k__law_word => k_is); (case a__law_comment => k_is); (case l__law_comment => k_is)
    (case c__law_comment => k_is); (case k__law_comment => k_is); (case a__law_blanks => k_is); (case l__law_blanks => k_is); (case c__law_blanks => k_is); (case k__law_blanks => k_is)
    (case a__law_build => k_is); (case l__law_build => k_is); (case c__law_build => k_is); (case k__law_build => k_is); (case a_law => k_is); (case l_law => k_is)
    (case c_law => k_is); (case k_law => k_is); (case hn => k_is); (case htk => k_is); (case z_bool => k_is); (case z_enumerate => k_is)
    (case z_int => k_is); (case z_isinstance => k_is); (case z_len => k_is); (case z_list => k_is); (case z_range => k_is); (case z_tuple => k_is)
