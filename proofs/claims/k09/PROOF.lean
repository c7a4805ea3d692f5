import PyProof.Rows.All
import Wide.All
import OpenK.AllK
import Wide.FinOn
import HandS.ForMost
import HandS.Codes
import HandS.IsInst
import HandS.Property
import HandS.Star
import HandS.Gcd
import HandS.Defaults
import HandS.Walk
import HandS.OwnEq
import HandS.SlotsOwn
import HandS.Strs
import KE.KCallOwn
import HandS.SetFor
import HandS.ExcOwn
import HandS.WordsExc
import HandS.ClsMeth
import HandS.ExcInit
import HandS.Words
import HandS.Ends
import HandS.Deep
import HandS.Text
import PyProof.NeKinds
import HandS.Dict
import HandS.Style
import HandS.LawCells
import HandS.NoneIn
import PyProof.MakeMany
import KE.KUnpackStar
import HandS.AnyAll
import HandS.Iter
import HandS.FStr
import HandS.RaiseMore
import KE.KRevSl
import HandS.List
import HandS.Evl
import PySem.Challenge.RW_waitworks_k09_modules_made
set_option Elab.async false
set_option maxRecDepth 100000
set_option autoImplicit false
namespace My
open PySem PySem.Spec PyProof.Rows L2
/-! ## general: either of two readings; defs and methods as one fact each; heaps -/
section
variable {X : Cx}
/-- either of two readings of an expression -/
theorem pe_alt {e : Expr} {t1 t2 : TE} (h1 : PE X e t1) (h2 : PE X e t2) : PE X e (fun σ H Q => t1 σ H Q ∨ t2 σ H Q) :=
  ⟨fun pins s σ H Q I h => h.elim (h1.run pins s σ H Q I) (h2.run pins s σ H Q I)⟩
theorem pi_alt {g e : Expr} {t1 t2 : TI} (h1 : PI X g e t1) (h2 : PI X g e t2) : PI X g e (fun σ H R => t1 σ H R ∨ t2 σ H R) :=
  ⟨fun pins s σ H R I h => h.elim (h1.run pins s σ H R I) (h2.run pins s σ H R I)⟩
theorem pss_alt {ss : List Stmt} {t1 t2 : TS} (h1 : PSs X ss t1) (h2 : PSs X ss t2) : PSs X ss (fun D σ H => t1 D σ H ∨ t2 D σ H) :=
  ⟨fun pins s σ H D I h => h.elim (h1.run pins s σ H D I) (h2.run pins s σ H D I)⟩
end
section
variable {P : Program} {w : World} {K : PySem.W.Frag} {mg : Str → Option Value} {base : Heap}
/-- the module's name x is a def that keeps a promise -/
structure Own (P : Program) (w : World) (K : PySem.W.Frag) (mg : Str → Option Value) (base : Heap) (x : Str) (k : Nat) (ps : List Str) (sp : Sp) : Prop where
  ex : ∃ f fd, FnOk P w K mg base CX0 k f fd ps sp ∧ mg x = some (.ref f) ∧ PySem.W.keepIn K (.ref f) = true ∧ Binds K fd ps []
/-- the module's name x is the def st -/
structure Df (K : PySem.W.Frag) (mg : Str → Option Value) (x : Str) (st : Stmt) (ps : List Str) : Prop where
  ex : ∃ f fd, Fun K x x st f fd ∧ mg x = some (.ref f) ∧ Binds K fd ps []
theorem Df.own {x : Str} {st : Stmt} {ps N : List Str} {k : Nat} {sp : Sp} (D : Df K mg x st ps) (S : FnScope N ps (defScope st)) (len : ∀ vs H Q E, sp vs H Q E → vs.length = ps.length)
    (hbody : ∀ (f : Addr) (cdv : Value) (A : Around) (outer : List Env) (s : Shared) (H : Hp) (vs : List V) (Q : VK) (E : XK), Room k (A.deeper (envOfC x (defScope st) s.heap.objs.size f cdv)) → sp vs H Q E →
      ∃ t, PSs (cxOf CX0 P w K mg base N x (defScope st) f cdv A outer s H E).nox (defBody st) t ∧ t { nx := fun _ H' => Q .non H', rt := Q } (start N vs) H) : Own P w K mg base x (k + 1) ps sp := by
  obtain ⟨f, fd, F, m, b⟩ := D.ex
  exact ⟨f, fd, F.ok S len (hbody f), m, F.kp, b⟩
theorem Own.imp {x : Str} {k j : Nat} {ps : List Str} {sp sp' : Sp} (O : Own P w K mg base x k ps sp) (hk : k ≤ j) (h : ∀ vs H Q E, sp' vs H Q E → sp vs H Q E) : Own P w K mg base x j ps sp' := by
  obtain ⟨f, fd, F, r⟩ := O.ex
  exact ⟨f, fd, (F.mono hk).imp h, r⟩
/-- a method of the class at C -/
structure Mth (P : Program) (w : World) (K : PySem.W.Frag) (mg : Str → Option Value) (base : Heap) (C : Addr) (m : Str) (k : Nat) (ps : List Str) (sp : Sp) : Prop where
  ex : ∃ f fd, FnOk P w K mg base CX0 k f fd ps sp ∧ Meth K C m f ∧ Binds K fd ps []
structure Prp (P : Program) (w : World) (K : PySem.W.Frag) (mg : Str → Option Value) (base : Heap) (C : Addr) (m : Str) (k : Nat) (ps : List Str) (sp : Sp) : Prop where
  ex : ∃ p f fd, FnOk P w K mg base CX0 k f fd ps sp ∧ PropOf K C m p f ∧ Binds K fd ps []
/-- the module's name x is a class whose __init__ keeps a promise -/
structure Mks (P : Program) (w : World) (K : PySem.W.Frag) (mg : Str → Option Value) (base : Heap) (x : Str) (C : Addr) (k : Nat) (ps : List Str) (sp : Sp) : Prop where
  ex : ∃ f fd, FnOk P w K mg base CX0 k f fd ps sp ∧ mg x = some (.ref C) ∧ Mk K C f ∧ Binds K fd ps []
end
section
variable {X : Cx} {x m : Str} {p pos apos : Pos} {e o : Expr} {es : List Expr} {t : TA} {ta : TE} {k : Nat} {ps : List Str} {sp : Sp} {C : Addr}
theorem pe_own (O : Own X.prog X.w X.K X.mg X.base x k ps sp) (hr : Room k X.A) (ha : PA X (e :: es) t) (hg : Gl X x := by exact rfl) (hdb : (x == ("__debug__" : Str)) = false := by decide)
    (he : starEach (e :: es) X.env = (false, eval e X.env) :: starEach es X.env := by rfl) (hpl : (backTo pos (starEach es X.env)).any (·.1) = false := by rfl) : PE X (.Call (.Name x p) (e :: es) [] pos) (tCall sp [] E0 t) := by
  obtain ⟨f, fd, G, hm, hk, hb⟩ := O.ex
  exact pe_call G hr hg hm hk hb .nil pass0 ha hdb he hpl
theorem pe_own0 (O : Own X.prog X.w X.K X.mg X.base x k ps sp) (hr : Room k X.A) (hg : Gl X x := by exact rfl) (hdb : (x == ("__debug__" : Str)) = false := by decide) : PE X (.Call (.Name x p) [] [] pos) (tCall sp [] E0 tNil) := by
  obtain ⟨f, fd, G, hm, hk, hb⟩ := O.ex
  exact pe_call0 G hr hg hm hk hb .nil pass0 hdb
theorem pe_mks (O : Mks X.prog X.w X.K X.mg X.base x C k ps sp) (hr : Room (k + 1) X.A) (ha : PA X (e :: es) t) (hg : Gl X x := by exact rfl) (hdb : (x == ("__debug__" : Str)) = false := by decide)
    (he : starEach (e :: es) X.env = (false, eval e X.env) :: starEach es X.env := by rfl) (hpl : (backTo pos (starEach es X.env)).any (·.1) = false := by rfl) : PE X (.Call (.Name x p) (e :: es) [] pos) (tMake C sp [] E0 t) := by
  obtain ⟨f, fd, G, hm, M, hb⟩ := O.ex
  exact pe_make M G hr hg hm hb .nil pass0 ha hdb he hpl
theorem pe_mth (c : Cls X.K C) (O : Mth X.prog X.w X.K X.mg X.base C m k ps sp) (hr : Room k X.A) (he : PE X o ta) (ha : PA X (e :: es) t)
    (hst : starEach (e :: es) X.env = (false, eval e X.env) :: starEach es X.env := by rfl) (hpl : (backTo pos (starEach es X.env)).any (·.1) = false := by rfl)
    {pl : Sem Bool} (ht : eval (.Call (.Attribute o m apos) (e :: es) [] pos) X.env = (do
      let ov ← eval o X.env
      standAt apos.atName
      let (f, first) ← holding [ov] (getMethod ov m pl)
      callWith pos f first (backTo pos (starEach (e :: es) X.env)) (backToKw pos (keywordEach [] X.env))) := by rfl) : PE X (.Call (.Attribute o m apos) (e :: es) [] pos) (tMeth C m sp [] E0 ta t) := by
  obtain ⟨f, fd, G, M, hb⟩ := O.ex
  exact pe_meth he c M G hr hb .nil pass0 ha hst hpl ht
theorem pe_prp (c : Cls X.K C) (O : Prp X.prog X.w X.K X.mg X.base C m k ps sp) (hr : Room (k + 1) X.A) (he : PE X o ta) (hab : attributeBase o m X.env (eval o X.env) = eval o X.env := by rfl) : PE X (.Attribute o m pos) (tProp C sp [] E0 ta) := by
  obtain ⟨q, f, fd, G, M, hb⟩ := O.ex
  exact pe_prop he c M G hr hb .nil pass0 hab
end
/-! ## heaps -/
theorem same_upd {H : Hp} {p : Addr} {o : HO} (h : H p = none) : Same H (upd H p o) := fun b x e => by
  rw [upd_ne (ne_of_none e h)]
  exact e
theorem _root_.L2.Same.seqT {K : PySem.W.Frag} {H H' : Hp} {a : Addr} {xs : List V} (e : Same H H') (h : SqT K H a xs) : SqT K H' a xs := by
  rcases h with (h | ⟨o, h⟩) | h
  · exact .inl (.inl (e _ _ h))
  · exact .inl (.inr ⟨o, e _ _ h⟩)
  · exact .inr h
theorem new_lst {Q : VK} {xs : List V} {H : Hp} (hl : xs.length ≤ sizeLine) (h : ∀ p H', Same H H' → H p = none → H' p = some (.lst xs) → Q (.ref p) H') : xs.length ≤ sizeLine ∧ ∀ p, H p = none → Q (.ref p) (upd H p (.lst xs)) :=
  ⟨hl, fun p hp => h p _ (same_upd hp) hp upd_same⟩
theorem new_tup {Q : VK} {xs : List V} {H : Hp} (hl : xs.length ≤ sizeLine) (h : ∀ p H', Same H H' → H p = none → H' p = some (.tup xs) → Q (.ref p) H') : xs.length ≤ sizeLine ∧ ∀ p, H p = none → Q (.ref p) (upd H p (.tup xs)) :=
  ⟨hl, fun p hp => h p _ (same_upd hp) hp upd_same⟩
theorem new_o {Q : VK} {o : HO} {H : Hp} (h : ∀ p H', Same H H' → H p = none → H' p = some o → Q (.ref p) H') : ∀ p, H p = none → Q (.ref p) (upd H p o) :=
  fun p hp => h p _ (same_upd hp) hp upd_same
end My
namespace My
open PySem PySem.Spec PyProof.Rows L2
/-! ## readings in one step -/
theorem rd_isi {K : PySem.W.Frag} {H : Hp} {Q : VK} {x : V} {m : String} (n : String) (b : Bool) (ty : TyX K H x (.type n)) (h : kitB n m = some b) (q : Q (.bl b) H) : rIsi K [x, .ty m] H Q :=
  ⟨_, _, _, _, _, rfl, .ty _, ty, kit_ty h, q⟩
theorem rd_isi2 {K : PySem.W.Frag} {H : Hp} {Q : VK} {x : V} {m m' : String} {tp : Addr} (n : String) (b b' : Bool) (ht : H tp = some (.tup [.ty m, .ty m'])) (ty : TyX K H x (.type n)) (h : kitB n m = some b) (h' : kitB n m' = some b') (q : Q (.bl (b || b')) H) : rIsiT K [x, .ref tp] H Q :=
  ⟨_, _, _, _, _, _, rfl, ht, .cons (.ty _) (.cons (.ty _) .nil), ty, kitAny_cons (kit_ty h) (fun e => kitAny_cons (r := b || b') (kit_ty h') (fun e' => by rw [e, e']; rfl) (fun e' => by rw [e, e']; rfl)) (fun e => by rw [e]; rfl), q⟩
end My
namespace My
open PySem PySem.Spec PyProof.Rows L2
/-! ## a list or a tuple -/
def SqS (K : PySem.W.Frag) (H : Hp) (a : Addr) (xs : List V) : Prop := SqL K H a xs ∨ SqT K H a xs
theorem _root_.L2.Same.sqs {K : PySem.W.Frag} {H H' : Hp} {a : Addr} {xs : List V} (e : Same H H') (h : SqS K H a xs) : SqS K H' a xs := h.imp e.seq e.seqT
/-- how a walk over such a thing goes, as long as what is tracked in H0 stands -/
structure SeqIt (H0 : Hp) (xs : List V) (J : It) : Prop where
  go : ∀ i H, Same H0 H → i < xs.length → J.go i H
  yld : ∀ i H x H', Same H0 H → J.yld i H x H' → H' = H ∧ xs[i]? = some x
  stop : ∀ i H, Same H0 H → xs.length ≤ i → J.stop i H
theorem seqIt_l {K : PySem.W.Frag} {H0 : Hp} {a : Addr} {xs : List V} (h : SqL K H0 a xs) : SeqIt H0 xs (Itl K a) :=
  ⟨fun i H s l => ⟨xs, xs[i], s.seq h, by simp [l]⟩, fun i H x H' s y => ⟨y.1, y.2 xs (s.seq h)⟩, fun i H s l => ⟨xs, s.seq h, l⟩⟩
theorem seqIt_t {K : PySem.W.Frag} {H0 : Hp} {a : Addr} {xs : List V} (h : SqT K H0 a xs) : SeqIt H0 xs (Itt K a) :=
  ⟨fun i H s l => ⟨xs, xs[i], s.seqT h, by simp [l]⟩, fun i H x H' s y => ⟨y.1, y.2 xs (s.seqT h)⟩, fun i H s l => ⟨xs, s.seqT h, l⟩⟩
theorem seq_pi {K : PySem.W.Frag} {a : Addr} {xs : List V} {i : Nat} {σ : L2.St} {H : Hp} {R : It → Hp → Prop} (h : SqS K H a xs) (hv : σ[i]? = some (some (.ref a))) (hR : ∀ J, SeqIt H xs J → R J H) : iList K (tVar i) σ H R ∨ iTup K (tVar i) σ H R :=
  h.elim (fun h => Or.inl ⟨_, hv, a, rfl, ⟨_, h⟩, hR _ (seqIt_l h)⟩) fun h => Or.inr ⟨_, hv, a, rfl, ⟨_, h⟩, hR _ (seqIt_t h)⟩
theorem for_seq {J : It} {H0 : Hp} {xs : List V} {g : TG} {tb : TS} {D : Ends} {σ : L2.St} {H : Hp} (hJ : SeqIt H0 xs J) (Pv : Nat → L2.St → Hp → Prop) (h0 : Pv 0 σ H) (hl : ∀ i σ H, Pv i σ H → Same H0 H)
    (hs : ∀ i x σ H, xs[i]? = some x → Pv i σ H → g x σ H fun σ2 H2 => tb { D with nx := Pv (i + 1), ct := Pv (i + 1), bk := D.nx } σ2 H2) (hd : ∀ σ H, Pv xs.length σ H → D.nx σ H) :
    ∃ W : Nat → Nat → L2.St → Hp → Prop, (∃ m, W 0 m σ H) ∧ ∀ i m σ H, W i m σ H →
      (J.stop i H ∧ D.nx σ H) ∨ (J.go i H ∧ ∃ N : L2.St → Hp → Prop, (∀ σ' H', N σ' H' → ∃ m', m' < m ∧ W (i + 1) m' σ' H') ∧ ∀ x H', J.yld i H x H' → g x σ H' fun σ2 H2 => tb { D with nx := N, ct := N, bk := D.nx } σ2 H2) := by
  refine ⟨fun i m σ H => m + i = xs.length ∧ Pv i σ H, ⟨xs.length, by omega, h0⟩, fun i m σ H q => ?_⟩
  obtain ⟨em, p⟩ := q
  have s := hl i σ H p
  by_cases hlt : i < xs.length
  · refine Or.inr ⟨hJ.go i H s hlt, Pv (i + 1), fun σ' H' p' => ⟨m - 1, by omega, by omega, p'⟩, fun x H' y => ?_⟩
    obtain ⟨rfl, e⟩ := hJ.yld i H x H' s y
    exact hs i x _ _ e p
  · have e : i = xs.length := by omega
    subst e
    exact Or.inl ⟨hJ.stop _ H s (Nat.le_refl _), hd _ _ p⟩
theorem lc_seq {J : It} {H0 : Hp} {xs : List V} {g : TG} {tt : TT} {te : TE} {vs : List Nat} {σ : L2.St} {H1 : Hp} {D : Addr} {Qd : Hp → Prop} (hJ : SeqIt H0 xs J) (Pv : Nat → Hp → Prop) (h0 : Pv 0 (upd H1 D (.lst []))) (hl : ∀ i H, Pv i H → Same H0 H)
    (hs : ∀ i x H, xs[i]? = some x → Pv i H → g x (wipe σ vs) H fun σ2 H2 => wipe σ2 vs = wipe σ vs ∧ tt σ2 H2 fun b H3 =>
      if b = true then te σ2 H3 fun y H4 => ∃ acc, H4 D = some (.lst acc) ∧ acc.length < sizeLine ∧ Pv (i + 1) (upd H4 D (.lst (acc ++ [y]))) else Pv (i + 1) H3) (hd : ∀ H, Pv xs.length H → Qd H) :
    ∃ W : Nat → Nat → Hp → Prop, (∃ m, W 0 m (upd H1 D (.lst []))) ∧ ∀ i m H, W i m H →
      (J.stop i H ∧ Qd H) ∨ (J.go i H ∧ ∃ Nx : Hp → Prop, (∀ H', Nx H' → ∃ m', m' < m ∧ W (i + 1) m' H') ∧ ∀ x H', J.yld i H x H' → g x (wipe σ vs) H' fun σ2 H2 => wipe σ2 vs = wipe σ vs ∧ tt σ2 H2 fun b H3 =>
        if b = true then te σ2 H3 fun y H4 => ∃ acc, H4 D = some (.lst acc) ∧ acc.length < sizeLine ∧ Nx (upd H4 D (.lst (acc ++ [y]))) else Nx H3) := by
  refine ⟨fun i m H => m + i = xs.length ∧ Pv i H, ⟨xs.length, by omega, h0⟩, fun i m H q => ?_⟩
  obtain ⟨em, p⟩ := q
  have s := hl i H p
  by_cases hlt : i < xs.length
  · refine Or.inr ⟨hJ.go i H s hlt, Pv (i + 1), fun H' p' => ⟨m - 1, by omega, by omega, p'⟩, fun x H' y => ?_⟩
    obtain ⟨rfl, e⟩ := hJ.yld i H x H' s y
    exact hs i x _ e p
  · have e : i = xs.length := by omega
    subst e
    exact Or.inl ⟨hJ.stop _ H s (Nat.le_refl _), hd _ p⟩
theorem new_facts {H H1 : Hp} {p : Addr} {o : HO} (hp : H p = none) (hq : upd H p o = H1) : Same H H1 ∧ H1 p = some o := by
  subst hq
  exact ⟨same_upd hp, upd_same⟩
theorem _root_.L2.Same.upd1 {H0 H : Hp} {p : Addr} {o : HO} (s : Same H0 H) (hp : H0 p = none) : Same H0 (upd H p o) := fun b x e => by
  rw [upd_ne (ne_of_none e hp)]
  exact s _ _ e
end My

namespace My
open PySem PySem.Spec PyProof.Rows L2
theorem Same.at {H H' : Hp} {a : Addr} {o : HO} (e : Same H H') (h : H a = some o) : H' a = some o := e _ _ h
/-- a comprehension's new list: what f gives of the turns so far -/
structure LcP (H1 : Hp) (D : Addr) (f : Nat → Option V) (i : Nat) (H : Hp) : Prop where
  same : Same H1 H
  lst : H D = some (.lst ((List.range i).filterMap f))
theorem fm_len (f : Nat → Option V) (i : Nat) : ((List.range i).filterMap f).length ≤ i := by
  have := List.length_filterMap_le f (List.range i)
  rw [List.length_range] at this
  exact this
theorem LcP.zero {H1 : Hp} {D : Addr} {f : Nat → Option V} (n : H1 D = none) : LcP H1 D f 0 (upd H1 D (.lst [])) := ⟨same_upd n, upd_same⟩
theorem LcP.yes {H1 H H4 : Hp} {D : Addr} {f : Nat → Option V} {i : Nat} {y : V} (p : LcP H1 D f i H) (s : Same H H4) (n : H1 D = none) (hi : i < sizeLine) (e : f i = some y) :
    ∃ acc, H4 D = some (.lst acc) ∧ acc.length < sizeLine ∧ LcP H1 D f (i + 1) (upd H4 D (.lst (acc ++ [y]))) := by
  refine ⟨_, s _ _ p.lst, Nat.lt_of_le_of_lt (fm_len f i) hi, (p.same.trans s).upd1 n, ?_⟩
  rw [upd_same, List.range_succ, List.filterMap_append, List.filterMap_cons, e, List.filterMap_nil]
theorem LcP.no {H1 H H3 : Hp} {D : Addr} {f : Nat → Option V} {i : Nat} (p : LcP H1 D f i H) (s : Same H H3) (e : f i = none) : LcP H1 D f (i + 1) H3 := by
  refine ⟨p.same.trans s, ?_⟩
  rw [s _ _ p.lst, List.range_succ, List.filterMap_append, List.filterMap_cons, e, List.filterMap_nil, List.append_nil]
theorem fm_join {β : Type} : ∀ (zs : List (Option β)), (List.range zs.length).filterMap (fun i => (zs[i]?).join) = zs.filterMap id
  | [] => rfl
  | z :: zs => by
    rw [List.length_cons, List.range_succ_eq_map, List.filterMap_cons, List.filterMap_map]
    have e : (fun (j : Nat) => ((z :: zs)[j]?).join) ∘ Nat.succ = fun (j : Nat) => (zs[j]?).join := by
      funext j
      rfl
    rw [e, fm_join zs]
    cases z <;> rfl
theorem fm_opt {α β : Type} (xs : List α) (g : α → Option β) : (List.range xs.length).filterMap (fun i => (xs[i]?).bind g) = xs.filterMap g := by
  have e : (fun (i : Nat) => (xs[i]?).bind g) = fun (i : Nat) => ((xs.map g)[i]?).join := by
    funext i
    rw [List.getElem?_map]
    cases xs[i]? <;> rfl
  rw [e, show xs.length = (xs.map g).length from (List.length_map ..).symm, fm_join, List.filterMap_map]
  rfl
theorem fm_get {α β : Type} (xs : List α) (g : α → β) : (List.range xs.length).filterMap (fun i => (xs[i]?).map g) = xs.map g := by
  have e : (fun (i : Nat) => (xs[i]?).map g) = fun (i : Nat) => (xs[i]?).bind fun x => some (g x) := by
    funext i
    cases xs[i]? <;> rfl
  rw [e, fm_opt]
  exact congrFun (List.filterMap_eq_map (f := g)) xs
theorem fm_if {α β : Type} (xs : List α) (p : α → Bool) (g : α → β) : (List.range xs.length).filterMap (fun i => (xs[i]?).bind fun x => if p x = true then some (g x) else none) = (xs.filter p).map g := by
  rw [fm_opt]
  induction xs with
  | nil => rfl
  | cons x xs ih =>
    by_cases c : p x = true
    · rw [List.filterMap_cons, if_pos c, List.filter_cons_of_pos c, List.map_cons, ih]
    · rw [List.filterMap_cons, if_neg c, List.filter_cons_of_neg c, ih]
end My

namespace MyN
open PySem PySem.Spec PyProof.Rows
section
variable {prog : Program} {w : World} {A : Around} {E : Value → Shared → Prop} {s : Shared} {K : PySem.W.Frag} {x C L f : Addr} {h₀ : Heap} {m : Str → Option Value} {ox : Obj} {od : Option Obj} {b tb : Value}
open Builtin in
theorem ne_body {Q : Fin → Shared → Prop} (hu : A.units < cLine) (X : K.In s.heap) (I : PySem.W.InstAt s.heap x ox C od) (hs : PySem.W.findIn K (.ref C) "__eq__" = some (some (.ref f))) (hf : PySem.W.isFn K (.ref f) = true)
    (h : wpAny (model prog w) A (call (.ref f) [.ref x, b]) (fun v s' => ∃ r, v = .bool r ∧ Q (.done (.ret (.bool (!r)))) s') E s) : wpAny (model prog w) A (Builtin.«object.__ne__» ⟨[.ref x, b], []⟩) Q E s := by
  unfold Builtin.«object.__ne__»
  repeat (first
    | with_reducible refine wpAny_cRoomFor hu ?_
    | (refine wpAny_bind (m := callSpecialIfBound? (.ref x) (Str.ofString "__eq__") [b])
        (PySem.W.ifBound_K X I hs hf (wpAny_mono h (fun r s' hr => by
          obtain ⟨b, rfl, hq⟩ := hr
          repeat (first | exact hq | exact wpAny_pure hq | exact wpAny_truthy_bool hq | (refine wpAny_bind (m := truthy (.bool _)) (wpAny_truthy_bool ?_)) | wp_step)) fun _ _ e => e)))
    | wp_step)
theorem call_objNe {Q : Value → Shared → Prop} (hu : A.in1.units < cLine) (X : K.In s.heap) (I : PySem.W.InstAt s.heap x ox C od) (hm : PySem.W.mroIn K C (.type "object") = some true) (hs : PySem.W.findIn K (.ref C) "__eq__" = some (some (.ref f))) (hf : PySem.W.isFn K (.ref f) = true)
    (h : wpAny (model prog w) A.in1 (call (.ref f) [.ref x, b]) (fun v s' => ∃ r, v = .bool r ∧ Q (.bool (!r)) s') E s) :
    wpAny (model prog w) A (call (.builtin "object.__ne__") [.ref x, b]) Q E s :=
  wpAny_call (codeAny_call_builtin F.cmp_object.ne.plain F.cmpEntry_ne (PySem.W.check_slot F.cmpKind_ne F.cmpSplit_ne (I.type.andThen (PySem.W.looks_mroIn X hm)) (F.cmpArgs_ne _ _) (ne_body hu X I hs hf h)))
theorem ifBound_objNe {M : Model} {args : List Value} {Q : Option Value → Shared → Prop} (X : K.In s.heap) (I : PySem.W.InstAt s.heap x ox C od) (hs : PySem.W.findIn K (.ref C) "__ne__" = some (some (.builtin "object.__ne__")))
    (h : wpAny M A (call (.builtin "object.__ne__") (.ref x :: args)) (fun v => Q (some v)) E s) : wpAny M A (callSpecialIfBound? (.ref x) "__ne__" args) Q E s := by
  simp only [callSpecialIfBound?, bindSpecialIfBound?]
  refine wpAny_holding (wpAny_bind (wpAny_bind (wpAny_bind (I.type.here ((PySem.W.looks_findIn X hs).here ?_)))))
  refine wpAny_bind (wpAny_askSetting (wpAny_ite ?_))
  have fin : wpAny M A (call (.builtin "object.__ne__") ([.ref x] ++ args) >>= fun v => pure (some v)) Q E s := wpAny_bind (wpAny_mono h (fun v s' h' => wpAny_pure h') fun _ _ h' => h')
  split
  · exact wpAny_bind (wpAny_of_eq (F.cmp_object.ne.bind _) (wpAny_pure (by exact fin)))
  · exact wpAny_tryCatch (wpAny_bind (wpAny_of_eq (F.cmp_object.ne.bind _) (wpAny_pure (by exact fin))))
theorem ne_K {Q : Value → Shared → Prop} (hu : A.units < cLine) (hu1 : A.in1.units < cLine) (F : Fr h₀ L s.heap m) (X₀ : K.In h₀) (I : PySem.W.InstAt s.heap x ox C od) (hb : PySem.W.Looks (model prog w) s.heap (typeOf b) tb) (hn : PySem.W.notFirst K C tb = true)
    (hm : PySem.W.mroIn K C (.type "object") = some true) (hne : PySem.W.findIn K (.ref C) "__ne__" = some (some (.builtin "object.__ne__"))) (hs : PySem.W.findIn K (.ref C) "__eq__" = some (some (.ref f))) (hf : PySem.W.isFn K (.ref f) = true)
    (h : wpAny (model prog w) A.in1 (call (.ref f) [.ref x, b]) (fun v s' => ∃ r, v = .bool r ∧ Q (.bool (!r)) s') E s) : wpAny (model prog w) A (richCompare .NotEq (.ref x) b) Q E s := by
  have X := X₀.keeps F.keep
  have one : wpAny (model prog w) A (tryCompare (.ref x) "__ne__" b) (fun r s' => ∃ v, r = some v ∧ Q v s') E s := by
    unfold tryCompare
    refine wpAny_bind (ifBound_objNe X I hne (call_objNe hu1 X I hm hs hf (wpAny_mono h (fun v s' hv => ?_) fun _ _ e => e)))
    obtain ⟨r, rfl, q⟩ := hv
    exact ⟨r, rfl, wpAny_pure ⟨_, rfl, q⟩⟩
  unfold richCompare
  simp only [oneThing_ref]
  refine wpAny_holding (wpAny_bind (wpAny_cRoomFor hu ?_))
  rw [cmpInfo_NotEq]
  dsimp only
  refine wpAny_bind (I.type.here (wpAny_bind (hb.here ?_)))
  split
  · rename_i q
    have e : PySem.W.subIn K tb (.ref C) = some false := by
      rcases Bool.or_eq_true_iff.mp hn with e | e
      · rw [beq_iff_eq.mp e] at q; simp at q
      · exact beq_iff_eq.mp e
    refine wpAny_bind ((PySem.W.looks_subIn X e).here ?_)
    simp only [Bool.false_eq_true, if_false]
    refine wpAny_bind (wpAny_mono one (fun r s' z => ?_) fun _ _ e => e)
    obtain ⟨v, rfl, hq⟩ := z
    exact wpAny_pure hq
  · refine wpAny_bind (wpAny_pure ?_)
    simp only [Bool.false_eq_true, if_false]
    refine wpAny_bind (wpAny_mono one (fun r s' z => ?_) fun _ _ e => e)
    obtain ⟨v, rfl, hq⟩ := z
    exact wpAny_pure hq
end
end MyN
namespace My
open PySem PySem.Spec PyProof.Rows L2
section
variable {X : Cx} {n : Nat} {C f : Addr} {fd : FuncData} {ps : List Str} {sp : Sp} {CX : CXT} {E : XK}
/-- the own == is a def that keeps a promise -/
structure EqOwn (X : Cx) (CX : CXT) (n : Nat) (C : Addr) (sp : Sp) (E : XK) : Prop where
  ex : ∃ f fd ps, FnOk X.prog X.w X.K X.mg X.base CX n f fd ps sp ∧ PySem.W.findIn X.K (.ref C) "__eq__" = some (some (.ref f)) ∧ PySem.W.isFn X.K (.ref f) = true ∧ Binds X.K fd ps []
  ne : PySem.W.findIn X.K (.ref C) "__ne__" = some (some (.builtin "object.__ne__"))
  mro : PySem.W.mroIn X.K C (.type "object") = some true
  hx : Passes CX X E
theorem own_run {A : Around} {Q : VK} {pins : List (Addr × Obj)} {σ : L2.St} {H : Hp} {s : Shared} {us : List Value} {vs : List V} (F : FnOk X.prog X.w X.K X.mg X.base CX n f fd ps sp) (hb : Binds X.K fd ps []) (hx : Passes CX X E) (hr : Room n A)
    (e0 : Env0 X.prog X.w X.K X.mg X.base A X.stack s H) (I : Inv X pins σ H s) (r : Vals vs us) (hsp : sp vs H Q E) : wpAny (model X.prog X.w) A (call (.ref f) us) (EP X pins σ Q) X.xe s := by
  have hl := F.len _ _ _ _ hsp
  refine wpAny_call (codeAny_mono (F.run A X.stack s H ⟨us, []⟩ us vs _ E hr e0 (by
    have := hb s us I.kIn (by rw [List.append_nil, ← r.length, hl])
    simpa using this) r hsp) fun r s' hq => ?_)
  cases r with
  | error e => exact hx pins σ H s e s' I hq
  | ok fl =>
    cases fl with
    | ret w => exact I.after hq
    | next => exact False.elim hq
    | brk => exact False.elim hq
    | cont => exact False.elim hq
/-- x == y, x of a class with its own ==, y anything of a known type -/
def rEqOwn (K : PySem.W.Frag) (C : Addr) (sp : Sp) (E : XK) : R2 := fun x y H Q => ∃ a dx fs t, x = .ref a ∧ H a = some (.ins C dx fs) ∧ TyX K H y t ∧ PySem.W.notFirst K C t = true ∧ sp [x, y] H Q E
def rNeOwn (K : PySem.W.Frag) (C : Addr) (sp : Sp) (E : XK) : R2 := fun x y H Q => ∃ a dx fs t, x = .ref a ∧ H a = some (.ins C dx fs) ∧ TyX K H y t ∧ PySem.W.notFirst K C t = true ∧ sp [x, y] H (fun v H' => ∃ r, v = .bl r ∧ Q (.bl (!r)) H') E
theorem op_eqOwn (O : EqOwn X CX n C sp E) (hr : Room n X.A) : OpR X (compareOp .Eq) (rEqOwn X.K C sp E) := by
  intro pins s σ H x y v u Q I rx ry h
  obtain ⟨f, fd, ps, F, hs, hf, hb⟩ := O.ex
  obtain ⟨a, dx, fs, t, rfl, ha, ty, hn, q⟩ := h
  cases (show v = Value.ref a from rx)
  obtain ⟨mA, J, _⟩ := ins_get I.hok ha
  obtain ⟨od, J, _⟩ := J.look
  obtain ⟨P, Z, p, _⟩ := kit_of I ry ty
  obtain ⟨m, hF⟩ := I.fr
  refine PySem.W.cmp_ofEq (PySem.W.cmp_K (op := .Eq) (tb := t) hr.units0 hF I.ok.mod.kin J (Z.ty _ _ I.kIn p) hn hs hf ?_)
  refine wpAny_mono (own_run (vs := [.ref a, y]) F hb O.hx hr I.env0 I (.cons rfl (.cons ry .nil)) q) (fun w s' z => ?_) fun _ _ x => x
  obtain ⟨z', H', I', rz, qz⟩ := z
  exact SlX.cmpback rz ⟨z', H', I', rz, qz⟩
theorem op_neOwn (O : EqOwn X CX n C sp E) (hr : Room (n + 1) X.A) : OpR X (compareOp .NotEq) (rNeOwn X.K C sp E) := by
  intro pins s σ H x y v u Q I rx ry h
  obtain ⟨f, fd, ps, F, hs, hf, hb⟩ := O.ex
  obtain ⟨a, dx, fs, t, rfl, ha, ty, hn, q⟩ := h
  cases (show v = Value.ref a from rx)
  obtain ⟨mA, J, _⟩ := ins_get I.hok ha
  obtain ⟨od, J, _⟩ := J.look
  obtain ⟨P, Z, p, _⟩ := kit_of I ry ty
  obtain ⟨m, hF⟩ := I.fr
  refine PySem.W.cmp_ofNotEq (MyN.ne_K (tb := t) hr.units0 hr.in1.units0 hF I.ok.mod.kin J (Z.ty _ _ I.kIn p) hn O.mro O.ne hs hf ?_)
  refine wpAny_mono (own_run (vs := [.ref a, y]) F hb O.hx hr.in1 I.env0.in1 I (.cons rfl (.cons ry .nil)) q) (fun w s' z => ?_) fun _ _ x => x
  obtain ⟨z', H', I', rz, r, rfl, qz⟩ := z
  cases (show w = Value.bool r from rz)
  exact ⟨r, rfl, .bl (!r), H', I', rfl, qz⟩
/-- str(x), x of a class with its own __str__ -/
def rStrOwn (C : Addr) (sp : Sp) (E : XK) : List V → Hp → VK → Prop := fun xs H Q => ∃ a dx fs, xs = [.ref a] ∧ H a = some (.ins C dx fs) ∧ sp [.ref a] H (fun v H' => ∃ y, v = .str y ∧ Q v H') E
structure StrOwn (X : Cx) (CX : CXT) (n : Nat) (C : Addr) (sp : Sp) (E : XK) : Prop where
  ex : ∃ f fd ps, FnOk X.prog X.w X.K X.mg X.base CX n f fd ps sp ∧ PySem.W.findIn X.K (.ref C) "__str__" = some (some (.ref f)) ∧ PySem.W.isFn X.K (.ref f) = true ∧ Binds X.K fd ps []
  hx : Passes CX X E
theorem call_strOwn (O : StrOwn X CX n C sp E) (hr : Room (n + 2) X.A) : CallR X (.type "str") (rStrOwn C sp E) := by
  intro pins s σ H xs us Q I r h
  obtain ⟨f, fd, ps, F, hs, hf, hb⟩ := O.ex
  obtain ⟨a, dx, fs, rfl, ha, q⟩ := h
  obtain ⟨u, rfl, ru⟩ := r.one
  cases (show u = Value.ref a from ru)
  obtain ⟨mA, J, _⟩ := ins_get I.hok ha
  obtain ⟨od, J, _⟩ := J.look
  have hr2 : Room n X.A.in1.in1 := (show Room (n + 1) X.A.in1 from Room.in1 hr).in1
  refine PySem.W.kso_call hr2.units0 I.kIn J hs hf (wpAny_mono (own_run (vs := [.ref a]) F hb O.hx hr2 I.env0.in1.in1 I (.cons rfl .nil) q) (fun w s' z => ?_) fun _ _ x => x)
  obtain ⟨z', H', I', rz, y, rfl, qz⟩ := z
  obtain ⟨t, e⟩ := (show ∃ t, w = Value.str y t from rz)
  cases e
  exact ⟨.str y, H', I', ⟨t, rfl⟩, qz⟩
end
end My

namespace My
open PySem PySem.Spec PyProof.Rows L2
/-! ## list.count of a text; a staticmethod called on its class; defs that raise -/
section
variable {X : Cx}
theorem countU {z : Str} : ∀ {us : List Value} {ws : List Str}, Vals (ws.map V.str) us → us.countP (eqU (.str z)) = ws.countP (fun y => decide (y = z))
  | _, [], .nil => rfl
  | _, w :: ws, .cons r h => by
    have ih := countU (z := z) h
    rw [List.countP_cons, List.countP_cons, ih, eqU_of r rfl]
    have : eqV (.str w) (.str z) = decide (w = z) := by
      show (w == z) = decide (w = z)
      by_cases e : w = z
      · rw [e, decide_eq_true rfl]; exact beq_self_eq_true z
      · rw [decide_eq_false e]; exact beq_eq_false_iff_ne.mpr e
    rw [this]
theorem flat_strs : ∀ ws : List Str, (ws.map V.str).all flatV = true
  | [] => rfl
  | w :: ws => by
    rw [List.map_cons, List.all_cons, flat_strs ws]
    rfl
def rCntS (K : PySem.W.Frag) : V → List V → Hp → VK → Prop := fun x xs H Q => ∃ (p : Addr) (ws : List Str) (z : Str), x = .ref p ∧ xs = [.str z] ∧ SqL K H p (ws.map V.str) ∧ Q (.int (ws.countP fun y => decide (y = z) : Nat)) H
theorem mt_scount : MtR X "list.count" (rCntS X.K) := by
  intro pins s σ H x xs v us Q I rx rxs h
  obtain ⟨p, ns, k, rfl, rfl, hs, q⟩ := h
  cases rx
  obtain ⟨u, rfl, ru⟩ := rxs.one
  obtain ⟨its, rv, ⟨⟨cls, dd, data, sl⟩, n, ho, hc, hdn, hd⟩, hlen⟩ := I.list hs
  simp only at hc hd
  subst hc hd
  refine call_meets PySem.F.slot_list_count ⟨_, ho, rfl⟩ PySem.F.entry_list_count (PySem.F.args_list_count_2 _ _)
    (SeqAt.list_countAt p its.toArray n dd sl u (eqU (.str k))) ⟨ho, fun y hy => mem_eqAt ru rfl rv (flat_strs ns) y (by simpa using hy), ?_⟩
  have ec : its.toArray.toList.countP (eqU (.str k)) = ns.countP (fun y => decide (y = k)) := countU rv
  refine ⟨.int (ns.countP fun y => decide (y = k) : Nat), H, I.tok _, ⟨s.toks, ?_⟩, q⟩
  show Value.int ((its.toArray.toList.countP (eqU (.str k)) : Nat) : Int) s.toks = Value.int ((ns.countP fun y => decide (y = k) : Nat) : Int) s.toks
  rw [ec]
end
/-- m is a staticmethod of the class C: its record at p, its def at f -/
structure SMet (K : PySem.W.Frag) (C : Addr) (m : Str) (p f : Addr) : Prop where
  rd : PySem.W.readsIn K C (.type "type") = true
  ga : PySem.W.specialIn K (.ref C) "__getattribute__" = some (some (.builtin "type.__getattribute__"))
  at_ : PySem.W.findCls K (.ref C) (.type "type") m = some (.get (.builtin "staticmethod.__get__") (.ref p) .none (.ref C))
  rc : ∃ rest, PySem.W.recIn K p "staticmethod" = some (.ref f :: rest)
  kp : PySem.W.keepIn K (.ref f) = true
def tSMeth (C : Addr) (sp : Sp) (E : L2.St → XK) (ta : TE) (t : TA) : TE := fun σ H Q => ta σ H fun x H1 => x = .ref C ∧ t σ H1 fun vs H2 => sp vs H2 Q (E σ)
section
variable {X : Cx} {CX : CXT} {k : Nat} {f C p : Addr} {fd : FuncData} {ps : List Str} {sp : Sp} {E : L2.St → XK} {x m : Str} {pos apos : Pos} {e o : Expr} {es : List Expr} {ta : TE} {t : TA} {pl : Sem Bool}
theorem pe_smeth (he : PE X o ta) (c : SMet X.K C m p f) (F : FnOk X.prog X.w X.K X.mg X.base CX k f fd ps sp) (hr : Room k X.A) (hb : Binds X.K fd ps []) (hx : ∀ σ, PassesAt CX X σ (E σ)) (ha : PA X (e :: es) t)
    (hst : starEach (e :: es) X.env = (false, eval e X.env) :: starEach es X.env := by rfl) (hpl : (backTo pos (starEach es X.env)).any (·.1) = false := by rfl)
    (ht : eval (.Call (.Attribute o m apos) (e :: es) [] pos) X.env = (do
      let ov ← eval o X.env
      standAt apos.atName
      let (f, first) ← holding [ov] (getMethod ov m pl)
      callWith pos f first (backTo pos (starEach (e :: es) X.env)) (backToKw pos (keywordEach [] X.env))) := by rfl) :
    PE X (.Call (.Attribute o m apos) (e :: es) [] pos) (tSMeth C sp E ta t) := by
  refine ⟨fun pins s σ H Q I h => ?_⟩
  refine PySem.W.methodCall_KW (pl := pl) (thn (he.run pins s σ H _ I h) fun u s1 ⟨x, H1, I1, rx, ex, q⟩ => ?_) ht
  subst ex
  obtain rfl : u = Value.ref C := rx
  obtain ⟨rest, hp⟩ := c.rc
  refine PySem.W.method_cls I1.kIn c.ga (PySem.W.cls_bind I1.kIn c.rd c.at_ (wpAny_call (PySem.W.sm_get (s := { s1 with toks := s1.toks + 1 }) I1.kIn hp (PySem.W.handed_on rfl ?_))))
  have I2 := I1.tok (s1.toks + 1)
  refine PySem.W.callWith_K (h₀ := X.base) I2.ok.mod.kin c.kp (thn (ha.run pos pins _ σ H1 _ I2 q) fun us s3 ⟨vs, H2, I3, r, q2⟩ => ⟨I3.kIn, ?_⟩) hst hpl
  exact run_fnS F hr hb (hx σ) I3 r q2
end
/-! ### defs that raise -/
section
variable {P : Program} {w : World} {K : PySem.W.Frag} {mg : Str → Option Value} {base : Heap}
/-- the module's name x is a def that keeps a promise, and lets out what it tells -/
structure OwnX (P : Program) (w : World) (K : PySem.W.Frag) (mg : Str → Option Value) (base : Heap) (x : Str) (k : Nat) (ps : List Str) (sp : Sp) : Prop where
  ex : ∃ f fd, FnOk P w K mg base (L2.CX P w) k f fd ps sp ∧ mg x = some (.ref f) ∧ PySem.W.keepIn K (.ref f) = true ∧ Binds K fd ps []
theorem Df.ownX {x : Str} {st : Stmt} {ps N : List Str} {k : Nat} {sp : Sp} (D : Df K mg x st ps) (S : FnScope N ps (defScope st)) (len : ∀ vs H Q E, sp vs H Q E → vs.length = ps.length)
    (hbody : ∀ (f : Addr) (cdv : Value) (A : Around) (outer : List Env) (s : Shared) (H : Hp) (vs : List V) (Q : VK) (E : XK), Room k (A.deeper (envOfC x (defScope st) s.heap.objs.size f cdv)) → sp vs H Q E →
      ∃ t, PSs (cxOf (L2.CX P w) P w K mg base N x (defScope st) f cdv A outer s H E) (defBody st) t ∧ t { nx := fun _ H' => Q .non H', rt := Q } (start N vs) H) : OwnX P w K mg base x (k + 1) ps sp := by
  obtain ⟨f, fd, F, m, b⟩ := D.ex
  exact ⟨f, fd, F.okX S len (hbody f), m, F.kp, b⟩
end
section
variable {X : Cx} {x : Str} {p pos : Pos} {e : Expr} {es : List Expr} {t : TA} {k : Nat} {ps : List Str} {sp : Sp} {W : WX}
theorem pe_ownX (O : OwnX X.prog X.w X.K X.mg X.base x k ps sp) (hr : Room k X.A) (tk : Takes X W) (ha : PA X (e :: es) t) (hg : Gl X x := by exact rfl) (hdb : (x == ("__debug__" : Str)) = false := by decide)
    (he : starEach (e :: es) X.env = (false, eval e X.env) :: starEach es X.env := by rfl) (hpl : (backTo pos (starEach es X.env)).any (·.1) = false := by rfl) : PE X (.Call (.Name x p) (e :: es) [] pos) (tCallS sp (WE W) t) := by
  obtain ⟨f, fd, G, hm, hk, hb⟩ := O.ex
  exact pe_callS G hr hg hm hk hb (fun σ => passAt tk σ) ha hdb he hpl
end
end My

/-! repr of deep things, in a def that is called where no repr is under way -/
namespace MyG
open PySem PySem.Spec PyProof.Rows L2
/-- a def's promise where no repr is under way -/
structure FnG (P : Program) (w : World) (K : PySem.W.Frag) (mg : Str → Option Value) (base : Heap) (k : Nat) (f : Addr) (fd : FuncData) (ps : List Str) (sp : Sp) : Prop where
  len : ∀ vs H Q E, sp vs H Q E → vs.length = ps.length
  run : ∀ (A : Around) (outer : List Env) (s : Shared) (H : Hp) (args : Args) (us : List Value) (vs : List V) (Q : VK) (E : XK), Room k A → A.guards = some [] → Env0 P w K mg base A outer s H →
    BindsTo s fd args (ps.zip us) → Vals vs us → sp vs H Q E → codeAny (model P w) A (.call (.ref f) args) (CR CX0 outer P w H s Q E) s
section
variable {P : Program} {w : World} {K : PySem.W.Frag} {mg : Str → Option Value} {base : Heap}
theorem okG {x qual : Str} {st : Stmt} {f : Addr} {fd : FuncData} {N ps : List Str} {k : Nat} {sp : Sp} (D : Fun K x qual st f fd) (S : FnScope N ps (defScope st)) (len : ∀ vs H Q E, sp vs H Q E → vs.length = ps.length)
    (go : ∀ (cdv : Value) (A : Around) (outer : List Env) (s : Shared) (H : Hp) (vs : List V) (Q : VK) (E : XK), Room k (A.deeper (envOfC qual (defScope st) s.heap.objs.size f cdv)) → (A.deeper (envOfC qual (defScope st) s.heap.objs.size f cdv)).guards = some [] →
      sp vs H Q E → ∃ t, PSs (cxOf CX0 P w K mg base N qual (defScope st) f cdv A outer s H E).nox (defBody st) t ∧ t { nx := fun _ H' => Q .non H', rt := Q } (start N vs) H) : FnG P w K mg base (k + 1) f fd ps sp := by
  obtain ⟨oc, od, kV, doc, pm, an, cdv, ct, osl, rfl, lk, code⟩ := D.ex
  refine ⟨len, fun A outer s H args us vs Q E room gd e0 bd rv hs => ?_⟩
  have old : ∀ b o, base.get? b = some o → s.heap.get? b = some o := fun b o e => (e0.bs b o e).1
  have KX : K.In s.heap := e0.mod.kin.keeps old
  have names : ∀ y ∈ ps.zip us, (defScope st).names.lookup y.1 = some .local ∨ ((defScope st).names.lookup y.1 = some .cell ∧ ((cellsFrom (s.heap.objs.size + 1) (defScope st).names []).lookup y.1).isSome = true) := fun ⟨n, v⟩ hy =>
    (S.par n (List.of_mem_zip hy).1).imp id fun q => ⟨q, PySem.W.cellsFrom_some _ _ _ (.inl q)⟩
  refine codeAny_call_function room.depth (KX _ _ lk) rfl S.co S.gen rfl (PySem.W.codeRec_of KX code) (bd _ _ _ _ (wpAny_newFunctionEnv_cells S.kind names ?_))
  rintro env rfl s1 call
  obtain ⟨t, body, q0⟩ := go cdv A outer s H vs Q E (room.deeper _) gd hs
  have I := inv_start (CX := CX0) (E := E) S room.hd e0 (len _ _ _ _ hs) rv call
  refine ⟨(e0.mod.nolimit.keeps old).keeps call.toInCall.keep, codeAny_func (wpAny_mono (body.nox.run [] s1 (start N vs) H _ I q0) ?_ fun _ _ z => z)⟩
  intro fl s' z
  have bye : ∀ {σ' : L2.St} {H' : Hp} {v : V} {u : Value}, Inv (cxOf CX0 P w K mg base N qual (defScope st) f cdv A outer s H E) [] σ' H' s' → RelV v u → Q v H' → CE outer P w H s Q u s' := fun {σ' H' v u} J r y => ⟨v, H', J.os, J.bare, J.base, J.hok, r, y⟩
  cases fl
  case ret u =>
    obtain ⟨v, σ', H', J, r, y⟩ := z
    exact bye J r y
  case next =>
    obtain ⟨σ', H', J, y⟩ := z
    exact bye (v := V.non) (u := Value.none) J rfl y
  all_goals
    obtain ⟨_, _, _, y⟩ := z
    exact False.elim y
end
/-- repr of a thing that is known deep down -/
def rReprD (K : PySem.W.Frag) : List V → Hp → VK → Prop := fun xs H Q =>
  ∃ (a : Addr) (d : PyData), xs = [.ref a] ∧ Dp K H (.ref a) d ∧ d.showable = true ∧ d.hasDict = false ∧ d.depth ≤ 30 ∧ d.shown.length ≤ sizeLine ∧ Q (.str d.shown) H
theorem call_reprD {X : Cx} (gd : X.A.guards = some []) (un : X.A.units + 64 < cLine) : CallR X (.builtin "repr") (rReprD X.K) := by
  intro pins s σ H xs us Q I rv z
  obtain ⟨a, d, rfl, dp, sh, nd, de, sz, q⟩ := z
  cases rv with
  | cons r0 rr =>
    cases rr
    cases r0
    obtain ⟨as, rd⟩ := Dp.reads I d (.ref a) (.ref a) dp rfl
    refine repr_of_reads' rd sh (fun y => by rw [nd] at y; cases y) gd (by omega) (fun _ _ e => e) (fun h' u tk old => ?_) sz
    exact ⟨.str d.shown, H, I.kept (t' := tk) old, ⟨u, rfl⟩, q⟩
end MyG

/-! the theorem's head for a law's def that keeps a promise where no repr is under way -/
namespace MyG
open PySem PySem.Spec PyProof.Rows L2
/-- the heap in which nothing but the script is tracked, unless the script is the module's own -/
def heap0 (K : PySem.W.Frag) (a : Addr) (ob : Obj) (xs : List V) : Hp := fun b => if b = a ∧ K.lookup a = none then some (.frz ob (.lst xs)) else none
theorem heap0_some {K : PySem.W.Frag} {a b : Addr} {ob : Obj} {xs : List V} {u : HO} (h : heap0 K a ob xs b = some u) : b = a ∧ K.lookup a = none ∧ u = .frz ob (.lst xs) := by
  unfold heap0 at h
  split at h
  · rename_i c
    exact ⟨c.1, c.2, (Option.some.inj h).symm⟩
  · cases h
theorem heap0_only {K : PySem.W.Frag} {a : Addr} {ob : Obj} {xs : List V} : Only (heap0 K a ob xs) := fun b => by
  cases h : heap0 K a ob xs b with
  | none => exact .inl rfl
  | some u => exact .inr ⟨ob, xs, by rw [(heap0_some h).2.2]⟩
theorem head_call {P : Program} {w : World} {K : PySem.W.Frag} {mg mb : Str → Option Value} {k : Nat} {fa a : Addr} {fd : FuncData} {x : Str} {sp : Sp} {s₁ : Shared} {vs : List Value} {ns : List Int}
    (kin : K.In s₁.heap) (nm : s₁.heap.Ns mainGlobals mg) (nb : s₁.heap.Ns builtinsNs mb) (nbb : ∀ x : Str, x ≠ "__name__" → mb x = bootBuiltins x) (nl : s₁.heap.NoLimit) (gs : s₁.gens = #[])
    (lies : s₁.heap.get? a = some { cls := .type "list", data := .seq vs.toArray }) (are : IntsAre vs ns) (le : ns.length ≤ sizeLine) (room : Room k callerA)
    (F : ∀ base : Heap, K.In base → base.Ns mainGlobals mg → FnG P w K mg base k fa fd [x] sp) (bd : ∀ (s : Shared) (u : Value), BindsTo s fd ⟨[u], []⟩ [(x, u)])
    (pre : ∀ H : Hp, Only H → SqL K H a (ns.map V.int) → sp [.ref a] H (fun v _ => v = .bl true) fun _ _ _ => False) :
    codeAny (model P w) callerA (.call (.ref fa) ⟨[.ref a], []⟩) (fun r s' => r = .ok (.ret (.bool true)) ∧ OldK s₁.heap s'.heap ∧ s'.os = s₁.os ∧ AllBare s'.gens) s₁ := by
  have rv := vals_ints are
  obtain ⟨ob, eob⟩ : ∃ ob : Obj, ob = { cls := .type "list", data := .seq vs.toArray } := ⟨_, rfl⟩
  obtain ⟨H, eH⟩ : ∃ H : Hp, H = heap0 K a ob (ns.map V.int) := ⟨_, rfl⟩
  have some_ : ∀ {b u}, H b = some u → b = a ∧ K.lookup a = none ∧ u = .frz ob (.lst (ns.map V.int)) := fun {b u} h => heap0_some (eH ▸ h)
  have only : Only H := eH ▸ heap0_only
  have sq : SqL K H a (ns.map V.int) := by
    cases lk : K.lookup a with
    | some o =>
      have e := kin a o lk
      rw [lies] at e
      cases e
      exact .inr ⟨_, vs.toArray, _, lk, rfl, rfl, rfl, by rw [List.size_toArray, are.length]; exact le, by simpa using rv⟩
    | none => exact .inl (.inr ⟨ob, by rw [eH]; exact if_pos ⟨rfl, lk⟩⟩)
  have ok : HOk P w H s₁.heap := fun b u h => by
    obtain ⟨rfl, _, rfl⟩ := some_ h
    rw [eob]
    exact ⟨lies, by rw [List.length_map]; exact le, vs, _, rv, lies⟩
  have isK : ∀ b o, K.lookup b = some o → H b = none := fun b o e => by
    cases h : H b with
    | none => rfl
    | some u =>
      obtain ⟨rfl, n, _⟩ := some_ h
      rw [n] at e
      cases e
  have isD : ∀ {b : Addr} {o : Obj} {es : Array DictEntry} {ep : Nat}, s₁.heap.get? b = some o → o.data = .dict es ep → H b = none := fun {b o es ep} e d => by
    cases h : H b with
    | none => rfl
    | some u =>
      obtain ⟨rfl, _, _⟩ := some_ h
      rw [lies] at e
      cases e
      have d' : Data.seq vs.toArray _ = Data.dict es ep := d
      cases d'
  have ns_ : ∀ {b : Addr} {m : Str → Option Value}, s₁.heap.Ns b m → (hidT s₁.heap H).Ns b m := fun {b m} ⟨o, es, ep, e, d, r⟩ => ⟨o, es, ep, hidT_get e (isD e d), d, r⟩
  have kb : K.In (hidT s₁.heap H) := fun b o e => hidT_get (kin b o e) (isK b o e)
  obtain ⟨mc, l1, l2⟩ := nl
  have e0 : Env0 P w K mg (hidT s₁.heap H) callerA [] s₁ H := {
    frames := rfl
    mod := ⟨kb, ns_ nm, ⟨mb, ns_ nb, nbb⟩, mc, ns_ l1, l2⟩
    bs := fun b o e => of_hidT e
    bsz := Nat.le_of_eq (hidT_size _ _)
    funs := trivial
    frf := fun b hb => nomatch hb
    hok := ok
    bare := .of_eq gs }
  refine codeAny_mono ((F _ kb (ns_ nm)).run callerA [] s₁ H ⟨[.ref a], []⟩ [.ref a] [.ref a] _ _ room rfl e0 (bd s₁ (.ref a)) (.cons rfl .nil) (pre H only sq)) fun r s' h => ?_
  cases r with
  | error e => exact False.elim h
  | ok fl =>
    cases fl with
    | ret u =>
      obtain ⟨v, H', os, bare, un, ok', r', q⟩ := h
      obtain rfl : v = .bl true := q
      obtain rfl : u = Value.bool true := r'
      refine ⟨rfl, OldK.of_keep fun b o e => ?_, os, bare⟩
      cases h : H b with
      | none => exact un.keep b o e h (fun z => nomatch z) (fun z => nomatch z)
      | some y =>
        obtain ⟨rfl, _, rfl⟩ := some_ h
        have z2 := ok' _ _ (un.frzs _ ob _ h)
        rw [lies] at e
        cases e
        rw [eob] at z2
        exact z2.1
    | next => exact False.elim h
    | brk => exact False.elim h
    | cont => exact False.elim h
/-- as walk_of, for such a promise -/
theorem walk_G {l : PySem.W.OpenLaw} {n k : Nat} {q : Program} {loose : List Str} {XP : (Str → Option Value) → Heap → Prop} {YP : World → Heap → Prop} {d : DefRec} {K : Params → PySem.W.Frag} {sp : World → Sp} {x : Str}
    (most : l.most = some n) (small : n ≤ sizeLine) (nodef : d.params.defaults = []) (room : Room k callerA) (hY : ∀ (w : World) (h : Heap), YP w h → (K w.params).In h)
    (F : ∀ (w : World) (mg : Str → Option Value) (fa : Addr) (h : Heap), (K w.params).In h → h.Ns mainGlobals mg → mg d.name = some (.ref fa) → ∃ fd : FuncData, (∀ (s : Shared) (u : Value), BindsTo s fd ⟨[u], []⟩ [(x, u)]) ∧
      ∀ base : Heap, (K w.params).In base → base.Ns mainGlobals mg → FnG l.prog w (K w.params) mg base k fa fd [x] (sp w))
    (pre : ∀ (w : World) (H : Hp) (a : Addr) (ns : List Int), ns.length ≤ n → Only H → SqL (K w.params) H a (ns.map V.int) → sp w [.ref a] H (fun v _ => v = .bl true) fun _ _ _ => False) :
    PySem.W.WalkO q loose XP YP l.row.toRowW d [] (fun f vs => PySem.call f vs) :=
  Att.attach_call most nodef fun w s₀ s₁ mg mb fa o pm cd doc a vs ns G Y ho hd hcd hmg lies are le gs => by
    have KX := hY w _ Y
    obtain ⟨fd, bd, F1⟩ := F w mg fa _ KX G.T.g hmg
    exact head_call KX G.T.g G.T.b G.T.builtins G.T.nolimit gs lies are (Nat.le_trans le small) room F1 bd fun H o s => pre w H a ns le o s
end MyG

/-! data on the abstract heap; what the checks of the program say of data -/
namespace My
open PySem PySem.Spec PyProof.Rows L2
/-- what a text must be to be told and compared -/
def okS (x : Str) : Bool := x.cps.all (· < 0x110000) && decide (x.length ≤ 1000)
mutual
/-- v is the data d, in lists and tuples that stand in H -/
inductive Dv (H : Hp) : V → PyData → Prop
  | non : Dv H .non .none
  | bl (b : Bool) : Dv H (.bl b) (.bool b)
  | int (i : Int) : Dv H (.int i) (.int i)
  | str {x : Str} (h : okS x = true) : Dv H (.str x) (.str x)
  | lst {a : Addr} {xs : List V} {ds : List PyData} (e : H a = some (.lst xs)) (h : DvAll H xs ds) (sm : ds.length ≤ 2000) : Dv H (.ref a) (.list ds)
  | tup {a : Addr} {xs : List V} {ds : List PyData} (e : H a = some (.tup xs)) (h : DvAll H xs ds) (sm : ds.length ≤ 2000) : Dv H (.ref a) (.tuple ds)
inductive DvAll (H : Hp) : List V → List PyData → Prop
  | nil : DvAll H [] []
  | cons {v : V} {d : PyData} {vs : List V} {ds : List PyData} (h : Dv H v d) (t : DvAll H vs ds) : DvAll H (v :: vs) (d :: ds)
end
section
variable {K : PySem.W.Frag} {H H' : Hp} {v : V} {d : PyData} {xs ys : List V} {ds es : List PyData}
theorem Dv.same (s : Same H H') (h : Dv H v d) : Dv H' v d :=
  Dv.rec (motive_1 := fun v d _ => Dv H' v d) (motive_2 := fun vs ds _ => DvAll H' vs ds) .non (fun b => .bl b) (fun i => .int i) (fun q => .str q) (fun q _ sm ih => .lst (s _ _ q) ih sm) (fun q _ sm ih => .tup (s _ _ q) ih sm) .nil (fun _ _ a b => .cons a b) h
theorem DvAll.same (s : Same H H') (h : DvAll H xs ds) : DvAll H' xs ds := by
  induction xs generalizing ds with
  | nil =>
    cases h
    exact .nil
  | cons x xs ih =>
    cases h with
    | cons h t => exact .cons (h.same s) (ih t)
theorem Dv.dp (h : Dv H v d) : Dp K H v d :=
  Dv.rec (motive_1 := fun v d _ => Dp K H v d) (motive_2 := fun vs ds _ => DpAll K H vs ds) .non (fun b => .bl b) (fun i => .int i) (fun {x} _ => .str x) (fun q _ _ ih => .lst (SqL.of q) ih) (fun q _ _ ih => .tup (SqT.of q) ih) .nil (fun _ _ a b => .cons a b) h
theorem Dv.lay (h : Dv H v d) : d.canLay0 = true :=
  Dv.rec (motive_1 := fun _ d _ => d.canLay0 = true) (motive_2 := fun _ ds _ => PyData.canLayAll0 ds = true) rfl (fun _ => rfl) (fun _ => rfl) (fun {x} q => (Bool.and_eq_true_iff.mp q).1) (fun _ _ _ ih => ih) (fun _ _ _ ih => ih) rfl
    (fun {_ d _ ds} _ _ a b => by
      show (PyData.canLay0 d && PyData.canLayAll0 ds) = true
      rw [a, b]
      rfl) h
theorem DvAll.len (h : DvAll H xs ds) : xs.length = ds.length := by
  induction xs generalizing ds with
  | nil =>
    cases h
    rfl
  | cons x xs ih =>
    cases h with
    | cons h t => rw [List.length_cons, List.length_cons, ih t]
theorem DvAll.get (h : DvAll H xs ds) {i : Nat} {x : V} (e : xs[i]? = some x) : ∃ d, ds[i]? = some d ∧ Dv H x d := by
  induction xs generalizing ds i with
  | nil => cases i <;> cases e
  | cons y xs ih =>
    cases h with
    | cons h t =>
      cases i with
      | zero =>
        cases e
        exact ⟨_, rfl, h⟩
      | succ i => exact ih t e
theorem DvAll.app (h : DvAll H xs ds) (g : DvAll H ys es) : DvAll H (xs ++ ys) (ds ++ es) := by
  induction xs generalizing ds with
  | nil =>
    cases h
    exact g
  | cons x xs ih =>
    cases h with
    | cons h t => exact .cons h (ih t)
theorem DvAll.inv {d : PyData} (h : DvAll H xs (d :: ds)) : ∃ x ys, xs = x :: ys ∧ Dv H x d ∧ DvAll H ys ds := by
  cases h with
  | cons h t => exact ⟨_, _, rfl, h, t⟩
theorem DvAll.inv0 (h : DvAll H xs []) : xs = [] := by
  cases h
  rfl
end
/-- texts -/
theorem dvAll_str {H : Hp} : ∀ {ss : List Str}, (∀ x ∈ ss, okS x = true) → DvAll H (ss.map V.str) (ss.map PyData.str)
  | [], _ => .nil
  | x :: ss, h => .cons (.str (h x List.mem_cons_self)) (dvAll_str fun y hy => h y (List.mem_cons_of_mem _ hy))
/-! ## the types -/
def tyD : PyData → String
  | .none => "NoneType"
  | .bool _ => "bool"
  | .int _ => "int"
  | .str _ => "str"
  | .list _ => "list"
  | .tuple _ => "tuple"
  | .dict _ => "dict"
def isIntD : PyData → Bool
  | .int _ => true
  | _ => false
def isNumD : PyData → Bool
  | .int i => decide (0 ≤ i)
  | _ => false
def isStrD : PyData → Bool
  | .str _ => true
  | _ => false
def isTupD : PyData → Bool
  | .tuple _ => true
  | _ => false
def isSeqD : PyData → Bool
  | .list _ => true
  | .tuple _ => true
  | _ => false
/-- what stands in it, if it is a list or a tuple -/
def itemsD : PyData → List PyData
  | .list ds => ds
  | .tuple ds => ds
  | _ => []
def isTupND (n : Int) : PyData → Bool
  | .tuple ds => decide ((ds.length : Int) = n)
  | _ => false
/-- a small letter's code -/
def isLow (c : Nat) : Bool := decide (97 ≤ c) && decide (c ≤ 122)
def nameS (x : Str) : Bool := decide (1 ≤ x.length) && (decide (x.length ≤ 5) && x.cps.toList.all isLow)
def isNameD : PyData → Bool
  | .str x => nameS x
  | _ => false
def isLinkD : PyData → Bool
  | .tuple [f, t, m, l] => isStrD f && (isStrD t && (isNumD m && isNumD l))
  | _ => false
section
variable {K : PySem.W.Frag} {H : Hp} {v : V} {d : PyData} {Q : VK}
theorem Dv.ty (h : Dv H v d) : TyX K H v (.type (tyD d)) := by
  cases h with
  | non => exact .base .non
  | bl b => exact .base (.bl b)
  | int i => exact .base (.int i)
  | str h => exact .base (.str _)
  | lst e _ _ => exact .base (.lst e)
  | tup e _ _ => exact .base (.tup e)
theorem kb_int (d : PyData) : kitB (tyD d) "int" = some (match d with | .int _ => true | .bool _ => true | _ => false) := by cases d <;> (simp only [tyD, isStrD, isTupD]; decide +kernel)
theorem kb_bool (d : PyData) : kitB (tyD d) "bool" = some (match d with | .bool _ => true | _ => false) := by cases d <;> (simp only [tyD, isStrD, isTupD]; decide +kernel)
theorem kb_str (d : PyData) : kitB (tyD d) "str" = some (isStrD d) := by cases d <;> (simp only [tyD, isStrD, isTupD]; decide +kernel)
theorem kb_list (d : PyData) : kitB (tyD d) "list" = some (match d with | .list _ => true | _ => false) := by cases d <;> (simp only [tyD, isStrD, isTupD]; decide +kernel)
theorem kb_tuple (d : PyData) : kitB (tyD d) "tuple" = some (isTupD d) := by cases d <;> (simp only [tyD, isStrD, isTupD]; decide +kernel)
theorem rd_str (h : Dv H v d) (q : Q (.bl (isStrD d)) H) : rIsi K [v, .ty "str"] H Q := rd_isi _ _ h.ty (kb_str d) q
theorem rd_tuple (h : Dv H v d) (q : Q (.bl (isTupD d)) H) : rIsi K [v, .ty "tuple"] H Q := rd_isi _ _ h.ty (kb_tuple d) q
theorem rd_seq {tp : Addr} (h : Dv H v d) (e : H tp = some (.tup [.ty "list", .ty "tuple"])) (q : Q (.bl (isSeqD d)) H) : rIsiT K [v, .ref tp] H Q := by
  refine rd_isi2 _ _ _ e h.ty (kb_list d) (kb_tuple d) ?_
  cases d <;> exact q
/-- a list or a tuple as it stands -/
theorem Dv.seq (h : Dv H v d) (s : isSeqD d = true) : ∃ a xs, v = .ref a ∧ SqS K H a xs ∧ DvAll H xs (itemsD d) ∧ (itemsD d).length ≤ 2000 ∧ (H a = some (.lst xs) ∨ H a = some (.tup xs)) := by
  cases h with
  | lst e h sm => exact ⟨_, _, rfl, Or.inl (SqL.of e), h, sm, Or.inl e⟩
  | tup e h sm => exact ⟨_, _, rfl, Or.inr (SqT.of e), h, sm, Or.inr e⟩
  | _ => cases s
theorem Dv.tupE (h : Dv H v d) (s : isTupD d = true) : ∃ a xs ds, v = .ref a ∧ d = .tuple ds ∧ H a = some (.tup xs) ∧ DvAll H xs ds ∧ ds.length ≤ 2000 := by
  cases h with
  | tup e h sm => exact ⟨_, _, _, rfl, rfl, e, h, sm⟩
  | _ => cases s
theorem isTupN_tup {n : Int} (d : PyData) : isTupND n d = true → isTupD d = true := by
  cases d <;> intro h <;> first | rfl | cases h
end
end My

/-! len(set(xs)), xs a list or a tuple of texts -/
namespace MyS
open PySem PySem.Spec PyProof.Rows
/-- how many different texts stand among the first i -/
def cntS (xs : List Str) : Nat → Nat
  | 0 => 0
  | i + 1 => if (xs.take i).any (· == xs.getD i Str.empty) = true then cntS xs i else cntS xs i + 1
theorem cntS_le (xs : List Str) : ∀ i, cntS xs i ≤ i
  | 0 => Nat.le_refl _
  | i + 1 => by
    have := cntS_le xs i
    unfold cntS
    split <;> omega
theorem any_take (xs : List Str) {i : Nat} (hi : i < xs.length) (y : Str) : (xs.take (i + 1)).any (· == y) = ((xs.take i).any (· == y) || decide (y = xs.getD i Str.empty)) := by
  have e1 : xs.getD i Str.empty = xs[i] := by
    rw [List.getD_eq_getElem?_getD, List.getElem?_eq_getElem hi]
    rfl
  rw [List.take_add_one, List.getElem?_eq_getElem hi, List.any_append, e1]
  congr 1
  show ([xs[i]].any (· == y)) = _
  rw [List.any_cons, List.any_nil, Bool.or_false, Bool.eq_iff_iff, beq_iff_eq, decide_eq_true_iff]
  exact eq_comm
theorem cntS_full {xs : List Str} : ∀ i, i ≤ xs.length → (cntS xs i = i ↔ (xs.take i).Nodup)
  | 0, _ => by simp [cntS]
  | i + 1, h => by
    have hi : i < xs.length := h
    have ih := cntS_full i (Nat.le_of_lt hi)
    have le := cntS_le xs i
    have e1 : xs.getD i Str.empty = xs[i] := by
      rw [List.getD_eq_getElem?_getD, List.getElem?_eq_getElem hi]
      rfl
    have mem : (xs.take i).any (· == xs.getD i Str.empty) = true ↔ xs[i] ∈ xs.take i := by
      rw [e1, List.any_eq_true]
      constructor
      · rintro ⟨y, hy, q⟩
        rw [← eq_of_beq q]
        exact hy
      · exact fun q => ⟨_, q, beq_self_eq_true _⟩
    rw [List.take_add_one, List.getElem?_eq_getElem hi]
    show _ ↔ (xs.take i ++ [xs[i]]).Nodup
    rw [List.nodup_append]
    unfold cntS
    by_cases c : (xs.take i).any (· == xs.getD i Str.empty) = true
    · rw [if_pos c]
      constructor
      · intro q
        omega
      · rintro ⟨_, _, q⟩
        exact absurd rfl (q _ (mem.mp c) _ (List.mem_singleton.mpr rfl))
    · rw [if_neg c]
      constructor
      · intro q
        refine ⟨ih.mp (by omega), by simp, fun a ha b hb => ?_⟩
        rw [List.mem_singleton.mp hb]
        rintro rfl
        exact c (mem.mpr ha)
      · rintro ⟨q, _, _⟩
        rw [ih.mpr q]
theorem cntS_nodup (xs : List Str) : decide (cntS xs xs.length = xs.length) = decide xs.Nodup := by
  have := cntS_full (xs := xs) xs.length (Nat.le_refl _)
  rw [List.take_length] at this
  exact decide_eq_decide.mpr this
section
variable {prog : Program} {w : World} {A : Around} {R : Result → Shared → Prop} {I : Addr} {fp wr : List Addr} {G : Array GenState → Array GenState → Prop} {n : Nat} {P : Nat → Value → Prop} {St : Nat → Shared → Prop}
/-- the set has the first i -/
abbrev HasTo (prog : Program) (w : World) (h : Heap) (a : Addr) (xs : List Str) (i : Nat) : Prop := h.SetOf (PySem.strKind prog w) a (fun y => (xs.take i).any (· == y)) (cntS xs i)
theorem HasTo.at {h h' : Heap} {a : Addr} {xs : List Str} {i : Nat} (k : ∀ o, h.get? a = some o → h'.get? a = some o) (q : HasTo prog w h a xs i) : HasTo prog w h' a xs i := by
  obtain ⟨o, es, ep, tb, ho, more⟩ := q
  exact ⟨o, es, ep, tb, k o ho, more⟩
theorem fill (W : WalksS prog w A.in1 I fp wr G n P St) (a : Addr) (out : a ∉ fp) (xs : List Str) (ln : xs.length = n) (sm : n + 1 < scanBound) (is : ∀ i v, P i v → ∃ t, v = .str (xs.getD i Str.empty) t) :
    ∀ (left i : Nat) (s : Shared), n - i = left → i ≤ n → St i s → HasTo prog w s.heap a xs i → (∀ s', Moved (a :: wr) G s s' → HasTo prog w s'.heap a xs n → R (.ok (.ret .none)) s') →
      codeAny (model prog w) A (.builtin "set.update.loop" ⟨[.ref a, .ref I], []⟩) R s
  | 0, i, s, el, le, st, has, go => by
    obtain rfl : i = n := by omega
    refine codeAny_builtin F.entry_set_update_loop ?_
    rw [Around.under_plainId F.plain_set_update_loop _]
    show wpAny _ A.in1 (pyNext (.ref I) >>= _) _ _ _
    refine wpAny_bind (W.done _ _ _ st fun s' mv => ?_)
    show wpAny _ A.in1 (ret Value.none) _ _ _
    exact wpAny_pure (go s' (mv.mono fun b hb => List.mem_cons_of_mem _ hb) (has.at fun o ho => mv.heap a _ (fun h => out (W.sub _ h)) ho))
  | left + 1, i, s, el, le, st, has, go => by
    have lt : i < n := by omega
    refine codeAny_builtin F.entry_set_update_loop ?_
    rw [Around.under_plainId F.plain_set_update_loop _]
    show wpAny _ A.in1 (pyNext (.ref I) >>= _) _ _ _
    refine wpAny_bind (W.item i s _ _ lt st fun v s1 pv st1 mv => ?_)
    obtain ⟨t, rfl⟩ := is i v pv
    have has1 : HasTo prog w s1.heap a xs i := has.at fun o ho => mv.heap a _ (fun h => out (W.sub _ h)) ho
    have cl := cntS_le xs i
    show wpAny _ A.in1 (holding [Value.str (xs.getD i Str.empty) t] (setAdd a (.str (xs.getD i Str.empty) t)) >>= _) _ _ _
    refine wpAny_bind (wpAny_holding ?_)
    unfold setAdd
    refine wpAny_holding (wpAny_bind ((PySem.strKind prog w).pyHash (k := xs.getD i Str.empty) (strKind_is _ _ _ _) ?_))
    refine wpAny_setAddHashed_of (knd := PySem.strKind prog w) (s := { s1 with toks := s1.toks + 1 }) (strKind_is _ _ _ _) rfl has1 (by omega) fun h2 same has2 => ?_
    have has3 : HasTo prog w h2 a xs (i + 1) := PyProof.Rows.SetOf_congr has2 (fun y => (any_take xs (by omega) y).symm) (by
      show _ = if (xs.take i).any (· == xs.getD i Str.empty) = true then cntS xs i else cntS xs i + 1
      rfl)
    have keep : ∀ b o, b ≠ a → s1.heap.get? b = some o → h2.get? b = some o := fun b o nb e => (same.2 b nb).trans e
    exact wpAny_pure ⟨plainId_quiet F.plain_set_update_loop _, fill W a out xs ln sm is left (i + 1) _ (by omega) lt
      (W.frame _ s1 _ _ st1 (Nat.le_succ _) fun b hb o e => keep b o (fun h => out (h ▸ hb)) e) has3 fun s3 mv3 has4 =>
        go s3 (Moved.trans W.gtrans ((mv.mono fun b hb => List.mem_cons_of_mem _ hb).then_heap (Nat.le_succ _) fun b o hb e => keep b o (fun h => hb (by rw [h]; exact List.mem_cons_self)) e) mv3) has4⟩
end
/-- a new empty set -/
abbrev noSet (led : Bool) : Obj := { cls := .type "set", dict := none, data := .set #[] 0 (.fresh 0 0 led) }
section
variable {prog : Program} {w : World} {A : Around} {E : Value → Shared → Prop} {s : Shared}
set_option maxHeartbeats 4000000 in
/-- set(xs), xs a list of texts -/
theorem call_set_L {l : Addr} {its : Array Value} {xs : List Str} {Q : Value → Shared → Prop} (cold : A.handled = none) (at1 : s.heap.IsList l its) (are : PyProof.Rows.StrsAre its.toList xs) (sm : xs.length ≤ 4000)
    (go : ∀ (h' : Heap) (tk : Nat), HasTo prog w h' s.heap.objs.size xs xs.length → (∀ b o, b < s.heap.objs.size → s.heap.get? b = some o → h'.get? b = some o) → Q (.ref s.heap.objs.size) { s with heap := h', toks := tk }) :
    wpAny (model prog w) A (call (.type "set") [.ref l]) Q E s := by
  have y1 := PySem.F.called_set.made
  have y2 := PySem.F.called_set.sub
  obtain ⟨cc, tl, y3⟩ := PySem.F.called_set.mro
  refine wpAny_call (codeAny_of_tree (id ?_))
  show wpAny _ _ (callAny (.type "set") _) _ _ _
  refine wpAny_pure (And.intro (Code.quiet_builtin _ (by decide +kernel)) (codeAny_builtin PySem.F.entry_type_call (id ?_)))
  rw [Around.under_plain (weight_type_call_type "set" [.ref l] []) rfl]
  have y4 := PySem.F.called_set.notType
  have y5 := PySem.F.called_set.canCreate
  have y6 := PySem.F.typeCall_set_1 (.ref l)
  repeat (any_goals (first | assumption | wp_step))
  refine codeAny_mono (code_set_new_1 (.ref l) (E := E) (Q₁ := fun v s1 => ∃ led : Bool, v = .ref s.heap.objs.size ∧ s1 = { s with heap := s.heap.push (noSet led) }) fun led => ⟨led, rfl, rfl⟩) fun r s1 z => ?_
  rcases r with e | (v | _ | _ | _) <;> first | exact z | exact z.elim | skip
  obtain ⟨led, rfl, rfl⟩ := z
  have at2 : (s.heap.push (noSet led)).get? s.heap.objs.size = some (noSet led) := Heap.get?_push_size _ rfl
  have ty : Shared.TypeIs { s with heap := s.heap.push (noSet led) } (.ref s.heap.objs.size) "set" := ⟨_, at2, rfl⟩
  have y7 := PySem.F.called_set.init.lookup
  have y8 := PySem.F.called_set.init.bind (.ref s.heap.objs.size)
  repeat (any_goals (first | assumption | wp_step))
  refine codeAny_mono (codeAny_call_builtin (R := wants (fun v s2 => v = .none ∧ ∃ h' tk, s2 = { s with heap := h', toks := tk } ∧ HasTo prog w h' s.heap.objs.size xs xs.length ∧ (∀ b o, b < s.heap.objs.size → s.heap.get? b = some o → h'.get? b = some o)) E)
    PySem.F.called_set.init.plain PySem.F.entry_set_init (check_set_init_1 ty (id ?_))) fun r s2 z => ?_
  · obtain ⟨⟨oc, od, ot, osl⟩, ol, c1, n1, d1⟩ := at1
    simp only at c1 d1
    subst c1 d1
    have lt : l < s.heap.objs.size := Heap.lt_size ol
    have at3 : (s.heap.push (noSet led)).get? l = some { cls := .type "list", dict := od, data := .seq its n1, slots := osl } := Heap.get?_push_of_some _ ol
    have z1 := PySem.F.sub_list_set
    have z2 := PySem.F.sub_list_frozenset
    have z3 : (Value.type "list" == Value.type "dict") = false := by decide
    have at4 : (s.heap.push (noSet led)).IsList l its := ⟨_, at3, rfl, n1, rfl⟩
    unfold Builtin.«set.__init__» noKeywords Builtin.Frozenset.updateFrom
    generalize ep : pyIter = iter
    wp_walk
    subst ep
    refine wpAny_pyIter_list at4 (wpAny_bind (wpAny_runValue (id ?_)))
    have cold3 : A.in1.in1.in1.handled = none := by simp [cold]
    have sz1 : (s.heap.push (noSet led)).objs.size = s.heap.objs.size + 1 := Heap.size_push _ _
    have n2 : l ≠ (s.heap.push (noSet led)).objs.size := by
      rw [sz1]
      exact Nat.ne_of_lt (Nat.lt_succ_of_lt lt)
    have n3 : s.heap.objs.size ∉ [(s.heap.push (noSet led)).objs.size, l] := by
      rw [sz1]
      simp only [List.mem_cons, List.not_mem_nil, or_false, not_or]
      exact ⟨Nat.ne_of_lt (Nat.lt_succ_self _), Nat.ne_of_gt lt⟩
    have ln : xs.length = its.size := by rw [← StrsAre.len_eq are, Array.length_toList]
    refine fill ((Walks.list cold3 _ l n2 its).toS) s.heap.objs.size n3 xs ln (by rw [← ln]; unfold scanBound; omega) (fun i v hv => SS.strs_at are i v (by rw [Array.getElem?_toList]; exact hv)) (its.size - 0) 0 _ (by omega) (Nat.zero_le _)
      ⟨⟨_, Heap.get?_push_size _ rfl, rfl, rfl⟩, at4.push _⟩ ?_ ?_
    · have at5 : ((s.heap.push (noSet led)).push { cls := .type "list_iterator", data := .fields #[.ref l, .int 0 0] }).get? s.heap.objs.size = some (noSet led) := Heap.get?_push_of_some _ at2
      exact PyProof.Rows.SetOf_congr ((PyProof.Rows.setObjOf_fresh (knd := PySem.strKind prog w) led).setOf at5 (by unfold scanBound; omega)) (fun _ => rfl) rfl
    · rintro ⟨h', g', d', tk', os'⟩ mv has
      obtain rfl : g' = s.gens := mv.gens
      obtain rfl : d' = s.drawn := mv.drawn
      obtain rfl : os' = s.os := mv.os
      show wpAny _ _ _ _ _ _
      refine wpAny_pure (id ?_)
      show wpAny _ _ (ret Value.none) _ _ _
      rw [← ln] at has
      refine wpAny_pure ⟨rfl, h', tk', rfl, has, fun b o hb e => mv.heap b o ?_ (Heap.get?_push_of_some _ (Heap.get?_push_of_some _ e))⟩
      simp only [List.mem_cons, List.not_mem_nil, or_false, not_or]
      exact ⟨Nat.ne_of_lt hb, by rw [sz1]; exact Nat.ne_of_lt (Nat.lt_succ_of_lt hb)⟩
  · rcases r with e | (v | _ | _ | _) <;> first | exact z | exact z.elim | skip
    obtain ⟨rfl, h', tk, rfl, has, keep⟩ := z
    repeat (any_goals (first | assumption | wp_step))
    exact go _ _ has keep
set_option maxHeartbeats 4000000 in
/-- set(xs), xs a tuple of texts -/
theorem call_set_T {l : Addr} {its : Array Value} {xs : List Str} {Q : Value → Shared → Prop} (cold : A.handled = none) (at1 : s.heap.IsTuple l its) (are : PyProof.Rows.StrsAre its.toList xs) (sm : xs.length ≤ 4000)
    (go : ∀ (h' : Heap) (tk : Nat), HasTo prog w h' s.heap.objs.size xs xs.length → (∀ b o, b < s.heap.objs.size → s.heap.get? b = some o → h'.get? b = some o) → Q (.ref s.heap.objs.size) { s with heap := h', toks := tk }) :
    wpAny (model prog w) A (call (.type "set") [.ref l]) Q E s := by
  have y1 := PySem.F.called_set.made
  have y2 := PySem.F.called_set.sub
  obtain ⟨cc, tl, y3⟩ := PySem.F.called_set.mro
  refine wpAny_call (codeAny_of_tree (id ?_))
  show wpAny _ _ (callAny (.type "set") _) _ _ _
  refine wpAny_pure (And.intro (Code.quiet_builtin _ (by decide +kernel)) (codeAny_builtin PySem.F.entry_type_call (id ?_)))
  rw [Around.under_plain (weight_type_call_type "set" [.ref l] []) rfl]
  have y4 := PySem.F.called_set.notType
  have y5 := PySem.F.called_set.canCreate
  have y6 := PySem.F.typeCall_set_1 (.ref l)
  repeat (any_goals (first | assumption | wp_step))
  refine codeAny_mono (code_set_new_1 (.ref l) (E := E) (Q₁ := fun v s1 => ∃ led : Bool, v = .ref s.heap.objs.size ∧ s1 = { s with heap := s.heap.push (noSet led) }) fun led => ⟨led, rfl, rfl⟩) fun r s1 z => ?_
  rcases r with e | (v | _ | _ | _) <;> first | exact z | exact z.elim | skip
  obtain ⟨led, rfl, rfl⟩ := z
  have at2 : (s.heap.push (noSet led)).get? s.heap.objs.size = some (noSet led) := Heap.get?_push_size _ rfl
  have ty : Shared.TypeIs { s with heap := s.heap.push (noSet led) } (.ref s.heap.objs.size) "set" := ⟨_, at2, rfl⟩
  have y7 := PySem.F.called_set.init.lookup
  have y8 := PySem.F.called_set.init.bind (.ref s.heap.objs.size)
  repeat (any_goals (first | assumption | wp_step))
  refine codeAny_mono (codeAny_call_builtin (R := wants (fun v s2 => v = .none ∧ ∃ h' tk, s2 = { s with heap := h', toks := tk } ∧ HasTo prog w h' s.heap.objs.size xs xs.length ∧ (∀ b o, b < s.heap.objs.size → s.heap.get? b = some o → h'.get? b = some o)) E)
    PySem.F.called_set.init.plain PySem.F.entry_set_init (check_set_init_1 ty (id ?_))) fun r s2 z => ?_
  · obtain ⟨⟨oc, od, ot, osl⟩, ol, c1, n1, d1⟩ := at1
    simp only at c1 d1
    subst c1 d1
    have lt : l < s.heap.objs.size := Heap.lt_size ol
    have at3 : (s.heap.push (noSet led)).get? l = some { cls := .type "tuple", dict := od, data := .seq its n1, slots := osl } := Heap.get?_push_of_some _ ol
    have z1 := PySem.F.sub_tuple_set
    have z2 := PySem.F.sub_tuple_frozenset
    have z3 : (Value.type "tuple" == Value.type "dict") = false := by decide
    have at4 : (s.heap.push (noSet led)).IsTuple l its := ⟨_, at3, rfl, n1, rfl⟩
    unfold Builtin.«set.__init__» noKeywords Builtin.Frozenset.updateFrom
    generalize ep : pyIter = iter
    wp_walk
    subst ep
    refine wpAny_pyIter_tuple at4 (wpAny_bind (wpAny_runValue (id ?_)))
    have cold3 : A.in1.in1.in1.handled = none := by simp [cold]
    have sz1 : (s.heap.push (noSet led)).objs.size = s.heap.objs.size + 1 := Heap.size_push _ _
    have n2 : l ≠ (s.heap.push (noSet led)).objs.size := by
      rw [sz1]
      exact Nat.ne_of_lt (Nat.lt_succ_of_lt lt)
    have n3 : s.heap.objs.size ∉ [(s.heap.push (noSet led)).objs.size, l] := by
      rw [sz1]
      simp only [List.mem_cons, List.not_mem_nil, or_false, not_or]
      exact ⟨Nat.ne_of_lt (Nat.lt_succ_self _), Nat.ne_of_gt lt⟩
    have ln : xs.length = its.size := by rw [← StrsAre.len_eq are, Array.length_toList]
    refine fill ((Walks.tuple cold3 _ l n2 its).toS) s.heap.objs.size n3 xs ln (by rw [← ln]; unfold scanBound; omega) (fun i v hv => SS.strs_at are i v (by rw [Array.getElem?_toList]; exact hv)) (its.size - 0) 0 _ (by omega) (Nat.zero_le _)
      ⟨⟨_, Heap.get?_push_size _ rfl, rfl, rfl⟩, at4.push _⟩ ?_ ?_
    · have at5 : ((s.heap.push (noSet led)).push { cls := .type "tuple_iterator", data := .fields #[.ref l, .int 0 0] }).get? s.heap.objs.size = some (noSet led) := Heap.get?_push_of_some _ at2
      exact PyProof.Rows.SetOf_congr ((PyProof.Rows.setObjOf_fresh (knd := PySem.strKind prog w) led).setOf at5 (by unfold scanBound; omega)) (fun _ => rfl) rfl
    · rintro ⟨h', g', d', tk', os'⟩ mv has
      obtain rfl : g' = s.gens := mv.gens
      obtain rfl : d' = s.drawn := mv.drawn
      obtain rfl : os' = s.os := mv.os
      show wpAny _ _ _ _ _ _
      refine wpAny_pure (id ?_)
      show wpAny _ _ (ret Value.none) _ _ _
      rw [← ln] at has
      refine wpAny_pure ⟨rfl, h', tk', rfl, has, fun b o hb e => mv.heap b o ?_ (Heap.get?_push_of_some _ (Heap.get?_push_of_some _ e))⟩
      simp only [List.mem_cons, List.not_mem_nil, or_false, not_or]
      exact ⟨Nat.ne_of_lt hb, by rw [sz1]; exact Nat.ne_of_lt (Nat.lt_succ_of_lt hb)⟩
  · rcases r with e | (v | _ | _ | _) <;> first | exact z | exact z.elim | skip
    obtain ⟨rfl, h', tk, rfl, has, keep⟩ := z
    repeat (any_goals (first | assumption | wp_step))
    exact go _ _ has keep
end
end MyS

namespace My
open PySem PySem.Spec PyProof.Rows L2 MyS
/-- len(set(xs)), xs a list or a tuple of texts -/
def tLenSetS (K : PySem.W.Frag) (ta : TE) : TE := fun σ H Q => ta σ H fun x H1 => ∃ (l : Addr) (xs : List Str), x = .ref l ∧ SqS K H1 l (xs.map V.str) ∧ xs.length ≤ 4000 ∧ Q (.int (cntS xs xs.length : Nat)) H1
theorem pe_lenSetS {X : Cx} {a : Expr} {ta : TE} {p p2 q pos : Pos} (hg : Gl X "len") (hm : X.mg "len" = none) (hg2 : Gl X "set") (hm2 : X.mg "set" = none) (ha : PE X a ta) (calm : X.calm = true := by rfl)
    (na : starEach [a] X.env = (false, eval a X.env) :: starEach [] X.env := by rfl) : PE X (.Call (.Name "len" p) [.Call (.Name "set" p2) [a] [] q] [] pos) (tLenSetS X.K ta) := by
  refine ⟨fun pins s σ H Q I h => Call_ (ld_blt I hg hm boot_len (PyProof.Rows.callWith_builtin1 (PyProof.Rows.args_cons ?_ rfl) rfl rfl))⟩
  refine Call_ (ld_blt I hg2 hm2 (by decide +kernel : bootBuiltins "set" = some (.type "set")) (PyProof.Rows.callWith_type1 (PyProof.Rows.args_cons (thn (ha.run pins s σ H _ I h) fun v s1 z => PyProof.Rows.args_nil ?_) na) na rfl))
  obtain ⟨_, H1, I1, rv, l, xs, rfl, hs, sm, q⟩ := z
  cases rv
  have fin : ∀ (h' : Heap) (tk : Nat), HasTo X.prog X.w h' s1.heap.objs.size xs xs.length → (∀ b o, b < s1.heap.objs.size → s1.heap.get? b = some o → h'.get? b = some o) →
      wpAny (model X.prog X.w) X.A (spliced (backTo pos (starEach [] X.env))) (fun vs s₂ => wpAny (model X.prog X.w) X.A (call (.builtin "len") (Value.ref s1.heap.objs.size :: vs)) (EP X pins σ Q) X.xe s₂) X.xe { s1 with heap := h', toks := tk } := fun h' tk has keep => by
    obtain ⟨o, es, ep, t, ho, ex, hd, _, _, _, hf, hn⟩ := has
    have cl := cntS_le xs xs.length
    have I2 : Inv X pins σ H1 { s1 with heap := h', toks := tk } := I1.kept fun b o e => keep b o (Heap.lt_size e) e
    exact PyProof.Rows.args_nil (call_len_set ho ex hd hf (by rw [hn]; omega) ⟨.int (cntS xs xs.length : Nat), H1, I2.tok _, ⟨_, by rw [hn]⟩, q⟩)
  rcases hs with hs | hs
  · obtain ⟨its, r, pl, hz⟩ := I1.list hs
    exact call_set_L (I1.ok.hd calm) pl.isList (by simpa using L2.strsAre_of r) sm fun h' tk has keep => fin h' tk has keep
  · obtain ⟨its, r, pl, hz⟩ := I1.tuple hs
    exact call_set_T (I1.ok.hd calm) pl (by simpa using L2.strsAre_of r) sm fun h' tk has keep => fin h' tk has keep
end My

namespace My
open PySem PySem.Spec PyProof.Rows L2
def topS (i : Nat) : Stmt := PySem.Challenge.pw_waitworks_k09_modules_made.main.body.getD i (.Pass ⟨0, 0, 0, 0⟩)
/-- what of the built-in names is still built-in -/
structure Txt (mg : Str → Option Value) : Prop where
  max : mg "max" = none
  min : mg "min" = none
  int : mg "int" = none
  len : mg "len" = none
  abs : mg "abs" = none
  range : mg "range" = none
  isinstance : mg "isinstance" = none
  bool : mg "bool" = none
  str : mg "str" = none
  list : mg "list" = none
  tuple : mg "tuple" = none
  all : mg "all" = none
  any : mg "any" = none
  set : mg "set" = none
  dict : mg "dict" = none
  enumerate : mg "enumerate" = none
  repr : mg "repr" = none
end My

namespace My
open PySem PySem.Spec PyProof.Rows L2
local macro_rules | `(tactic| walk_at "side") => `(tactic| first | (dsimp only; omega) | exact ⟨by omega, by omega⟩ | exact Or.inl ⟨by omega, by omega⟩ | exact Or.inr ⟨by omega, by omega⟩ | decide)
local macro_rules | `(tactic| walk_at "sq") => `(tactic| first | assumption | exact SqL.of (by assumption) | exact SqT.of (by assumption) | (refine L2.Same.seq (by assumption) ?_; walk_at "sq") | (refine L2.Same.seqT (by assumption) ?_; walk_at "sq") | exact Or.inl (by walk_at "sq") | exact Or.inr (by walk_at "sq"))
local macro_rules | `(tactic| walk_at "1") => `(tactic| first
  | refine ⟨_, rfl, iteT ?_⟩
  | refine ⟨_, rfl, iteF ?_⟩
  | refine ⟨_, rfl, ?_⟩
  | refine ⟨_, _, rfl, rfl, (by walk_at "side"), ?_⟩
  | refine ⟨_, _, rfl, rfl, ?_⟩
  | refine ⟨_, _, _, _, true, rfl, .ty _, .base (.int _), kit_ty (a := "int") (by decide +kernel), ?_⟩
  | refine ⟨_, _, _, _, false, rfl, .ty _, .base (.int _), kit_ty (a := "int") (by decide +kernel), ?_⟩
  | refine ⟨_, _, rfl, (by walk_at "sq"), ?_⟩
  | refine ⟨_, _, _, _, rfl, rfl, (by walk_at "sq"), (by first | rfl | assumption), ?_⟩
  | refine Or.inl ⟨_, _, _, _, rfl, rfl, (by walk_at "sq"), (by first | rfl | assumption), ?_⟩
  | refine Or.inr (Or.inl ⟨_, _, _, _, rfl, rfl, (by walk_at "sq"), (by first | rfl | assumption), ?_⟩)
  | refine ⟨_, _, rfl, Or.inl ⟨(by walk_at "sq"), ?_⟩⟩
  | refine ⟨rfl, ?_⟩
  | refine iteT ?_
  | refine iteF ?_
  | refine ⟨_, _, _, _, _, rfl, (by assumption), (by assumption), (by assumption), (by assumption), ?_⟩
  | refine Or.inl ⟨_, rfl, ?_⟩
  | refine Or.inr ⟨_, rfl, ?_⟩
  | refine ⟨_, _, rfl, (by walk_at "side"), ?_⟩
  | refine ⟨_, _, rfl, ?_⟩)
local macro_rules | `(tactic| walk_at "fld") => `(tactic| skip)
local macro_rules | `(tactic| walk_at "s") => `(tactic| repeat walk_at "1")
local macro_rules | `(tactic| walk_at "size") => `(tactic| first | exact Nat.le_of_ble_eq_true rfl | (simp only [List.length_map, List.length_append, List.length_cons, List.length_nil]; omega))
local macro_rules | `(tactic| walk_at "new") => `(tactic| (first | refine ⟨(by walk_at "size"), fun p hp => ?_⟩ | refine fun p hp => ?_); (generalize hq : upd _ p _ = H1); (obtain ⟨s, e⟩ := new_facts hp hq); clear hq)

/-- a check of one thing -/
def spD (f : PyData → Bool) : Sp := fun vs H Q _ => ∃ (v : V) (d : PyData), vs = [v] ∧ Dv H v d ∧ ∀ H', Same H H' → Q (.bl (f d)) H'
section
variable {P : Program} {w : World} {K : PySem.W.Frag} {mg : Str → Option Value} {base : Heap}
abbrev s_is_integer : Stmt := topS 13
theorem sc_is_integer : FnScope ["value"] ["value"] (defScope s_is_integer) := ⟨rfl, rfl, rfl, by decide +kernel, rfl, by decide +kernel, by decide +kernel⟩
theorem ok_is_integer (D : Df K mg "is_integer" s_is_integer ["value"]) (T : Txt mg) : Own P w K mg base "is_integer" 1 ["value"] (spD isIntD) := by
  refine D.own sc_is_integer (fun vs H Q E h => ?_) (fun f cdv A outer s H vs Q E hr h => ?_)
  · obtain ⟨_, _, rfl, _⟩ := h
    rfl
  · obtain ⟨v, d, rfl, hv, k⟩ := h
    refine ⟨_, (pss_one (ps_ret (pe_and (pe_callB call_isi (by rfl) T.isinstance (by decide +kernel) (pa_cons (pv 0) (pa_cons (pe_bltn (v := .ty "int") (u := .type "int") (by rfl) T.int (by decide +kernel) rfl) pa_nil))) (pe_one (pe_not (pe_callB call_isi (by rfl) T.isinstance (by decide +kernel) (pa_cons (pv 0) (pa_cons (pe_bltn (v := .ty "bool") (u := .type "bool") (by rfl) T.bool (by decide +kernel) rfl) pa_nil)))))))), ?_⟩
    refine ⟨_, rfl, _, _, _, _, _, rfl, .ty _, hv.ty, kit_ty (kb_int d), _, rfl, ?_⟩
    cases d with
    | int i =>
      refine iteT ?_
      exact ⟨_, rfl, _, _, _, _, _, rfl, .ty _, hv.ty, kit_ty (kb_bool _), false, rfl, k _ (Same.refl _)⟩
    | bool b =>
      refine iteT ?_
      exact ⟨_, rfl, _, _, _, _, _, rfl, .ty _, hv.ty, kit_ty (kb_bool _), true, rfl, k _ (Same.refl _)⟩
    | _ =>
      refine iteF ?_
      exact k _ (Same.refl _)
abbrev s_is_number : Stmt := topS 14
theorem sc_is_number : FnScope ["value"] ["value"] (defScope s_is_number) := ⟨rfl, rfl, rfl, by decide +kernel, rfl, by decide +kernel, by decide +kernel⟩
theorem ok_is_number (D : Df K mg "is_number" s_is_number ["value"]) (o_is_integer : Own P w K mg base "is_integer" 1 ["value"] (spD isIntD)) : Own P w K mg base "is_number" 2 ["value"] (spD isNumD) := by
  refine D.own sc_is_number (fun vs H Q E h => ?_) (fun f cdv A outer s H vs Q E hr h => ?_)
  · obtain ⟨_, _, rfl, _⟩ := h
    rfl
  · obtain ⟨v, d, rfl, hv, k⟩ := h
    refine ⟨_, (pss_one (ps_ret (pe_and (pe_own o_is_integer (hr.mono (by decide)) (pa_cons (pv 0) pa_nil)) (pe_one (pe_cmpR op_ge (pv 0) pe_int (nomark _)))))), ?_⟩
    refine ⟨_, rfl, _, d, rfl, hv, fun H1 s1 => ⟨_, rfl, ?_⟩⟩
    cases d with
    | int i =>
      cases hv
      refine iteT ?_
      exact ⟨_, rfl, _, _, rfl, rfl, k _ s1⟩
    | _ =>
      refine iteF ?_
      exact k _ s1
abbrev s_is_sequence : Stmt := topS 15
theorem sc_is_sequence : FnScope ["value"] ["value"] (defScope s_is_sequence) := ⟨rfl, rfl, rfl, by decide +kernel, rfl, by decide +kernel, by decide +kernel⟩
theorem ok_is_sequence (D : Df K mg "is_sequence" s_is_sequence ["value"]) (T : Txt mg) : Own P w K mg base "is_sequence" 1 ["value"] (spD isSeqD) := by
  refine D.own sc_is_sequence (fun vs H Q E h => ?_) (fun f cdv A outer s H vs Q E hr h => ?_)
  · obtain ⟨_, _, rfl, _⟩ := h
    rfl
  · obtain ⟨v, d, rfl, hv, k⟩ := h
    refine ⟨_, (pss_one (ps_ret (pe_callB call_isiT (by rfl) T.isinstance (by decide +kernel) (pa_cons (pv 0) (pa_cons (pe_tup (pa_cons (pe_bltn (v := .ty "list") (by rfl) T.list (by decide +kernel) rfl) (pa_cons (pe_bltn (v := .ty "tuple") (by rfl) T.tuple (by decide +kernel) rfl) pa_nil))) pa_nil))))), ?_⟩
    refine ⟨_, rfl, Nat.le_of_ble_eq_true rfl, fun p np => ?_⟩
    generalize hq : upd H p _ = H1
    obtain ⟨s1, e1⟩ := new_facts np hq
    exact rd_seq (hv.same s1) e1 (k _ s1)
abbrev s_is_tuple_of : Stmt := topS 16
theorem sc_is_tuple_of : FnScope ["value", "many"] ["value", "many"] (defScope s_is_tuple_of) := ⟨rfl, rfl, rfl, by decide +kernel, rfl, by decide +kernel, by decide +kernel⟩
def spTupOf : Sp := fun vs H Q _ => ∃ (v : V) (d : PyData) (n : Int), vs = [v, .int n] ∧ Dv H v d ∧ ∀ H', Same H H' → Q (.bl (isTupND n d)) H'
theorem ok_is_tuple_of (D : Df K mg "is_tuple_of" s_is_tuple_of ["value", "many"]) (T : Txt mg) : Own P w K mg base "is_tuple_of" 1 ["value", "many"] spTupOf := by
  refine D.own sc_is_tuple_of (fun vs H Q E h => ?_) (fun f cdv A outer s H vs Q E hr h => ?_)
  · obtain ⟨_, _, _, rfl, _⟩ := h
    rfl
  · obtain ⟨v, d, n, rfl, hv, k⟩ := h
    refine ⟨_, (pss_one (ps_ret (pe_and (pe_callB call_isi (by rfl) T.isinstance (by decide +kernel) (pa_cons (pv 0) (pa_cons (pe_bltn (v := .ty "tuple") (u := .type "tuple") (by rfl) T.tuple (by decide +kernel) rfl) pa_nil))) (pe_one (pe_cmpR op_eq (pe_callB call_len_seq (by rfl) T.len PySem.boot_len (pa_cons (pv 0) pa_nil)) (pv 1) (nomark _)))))), ?_⟩
    refine ⟨_, rfl, _, _, _, _, _, rfl, .ty _, hv.ty, kit_ty (kb_tuple d), _, rfl, ?_⟩
    cases d with
    | tuple ds =>
      cases hv with
      | @tup a xs _ e h sm =>
        refine iteT ?_
        refine ⟨_, rfl, a, xs, rfl, Or.inr (SqT.of e), _, rfl, rfl, ?_⟩
        have := k H (Same.refl _)
        rw [show (decide (V.int (xs.length : Int) = V.int n)) = isTupND n (.tuple ds) by
          rw [h.len]
          exact decide_eq_decide.mpr ⟨V.int.inj, fun q => by rw [q]⟩]
        exact this
    | _ =>
      refine iteF ?_
      exact k _ (Same.refl _)
abbrev s_is_link : Stmt := topS 19
theorem sc_is_link : FnScope ["value", "first", "then", "marks", "lasts"] ["value"] (defScope s_is_link) := ⟨rfl, rfl, rfl, by decide +kernel, rfl, by decide +kernel, by decide +kernel⟩
theorem isTupN4 {d : PyData} (h : isTupND 4 d = true) : ∃ a b c e, d = .tuple [a, b, c, e] := by
  cases d with
  | tuple ds =>
    have l : (ds.length : Int) = 4 := of_decide_eq_true h
    match ds, l with
    | [a, b, c, e], _ => exact ⟨a, b, c, e, rfl⟩
    | [], l => simp at l
    | [_], l => simp at l
    | [_, _], l => simp at l
    | [_, _, _], l => simp at l
    | _ :: _ :: _ :: _ :: _ :: r, l => simp only [List.length_cons] at l; omega
  | _ => cases h
theorem isLink_no {d : PyData} (h : isTupND 4 d = false) : isLinkD d = false := by
  cases d with
  | tuple ds =>
    match ds with
    | [a, b, c, e] => exact absurd h (by simp [isTupND])
    | [] => rfl
    | [_] => rfl
    | [_, _] => rfl
    | [_, _, _] => rfl
    | _ :: _ :: _ :: _ :: _ :: _ => rfl
  | _ => rfl
set_option maxHeartbeats 4000000 in
theorem ok_is_link (D : Df K mg "is_link" s_is_link ["value"]) (T : Txt mg) (o_is_tuple_of : Own P w K mg base "is_tuple_of" 1 ["value", "many"] spTupOf) (o_is_number : Own P w K mg base "is_number" 2 ["value"] (spD isNumD)) : Own P w K mg base "is_link" 3 ["value"] (spD isLinkD) := by
  refine D.own sc_is_link (fun vs H Q E h => ?_) (fun f cdv A outer s H vs Q E hr h => ?_)
  · obtain ⟨_, _, rfl, _⟩ := h
    rfl
  · obtain ⟨v, d, rfl, hv, k⟩ := h
    refine ⟨_, (pss_cons (ps_if (pt_not (pt_val (pe_own o_is_tuple_of (hr.mono (by decide)) (pa_cons (pv 0) (pa_cons pe_int pa_nil)))))
    (pss_one (ps_ret pe_bl))
    pss_nil)
  (pss_cons (ps_asg (pv 0) (pg_tup (by rfl) (pgs_cons (pg_name (i := 1) sc_is_link.nd rfl (Or.inl rfl)) (pgs_cons (pg_name (i := 2) sc_is_link.nd rfl (Or.inl rfl)) (pgs_cons (pg_name (i := 3) sc_is_link.nd rfl (Or.inl rfl)) (pgs_cons (pg_name (i := 4) sc_is_link.nd rfl (Or.inl rfl)) pgs_nil))))))
  (pss_one (ps_ret (pe_and (pe_callB call_isi (by rfl) T.isinstance (by decide +kernel) (pa_cons (pv 1) (pa_cons (pe_bltn (v := .ty "str") (u := .type "str") (by rfl) T.str (by decide +kernel) rfl) pa_nil))) (pe_and (pe_callB call_isi (by rfl) T.isinstance (by decide +kernel) (pa_cons (pv 2) (pa_cons (pe_bltn (v := .ty "str") (u := .type "str") (by rfl) T.str (by decide +kernel) rfl) pa_nil))) (pe_and (pe_own o_is_number (hr.mono (by decide)) (pa_cons (pv 3) pa_nil)) (pe_one (pe_own o_is_number (hr.mono (by decide)) (pa_cons (pv 4) pa_nil)))))))))), ?_⟩
    refine ⟨_, rfl, v, d, 4, rfl, hv, fun H1 s1 => ⟨_, rfl, ?_⟩⟩
    cases ht : isTupND 4 d with
    | false =>
      refine iteT ?_
      rw [← isLink_no ht]
      exact k _ s1
    | true =>
      refine iteF ?_
      obtain ⟨a, b, c, e, rfl⟩ := isTupN4 ht
      have hv1 := hv.same s1
      cases hv1 with
      | @tup p xs _ ep hx sm =>
        obtain ⟨x1, ys, rfl, d1, hx⟩ := hx.inv
        obtain ⟨x2, ys, rfl, d2, hx⟩ := hx.inv
        obtain ⟨x3, ys, rfl, d3, hx⟩ := hx.inv
        obtain ⟨x4, ys, rfl, d4, hx⟩ := hx.inv
        obtain rfl := hx.inv0
        have go : ∀ {b' : Bool} {H'}, Same H1 H' → b' = isLinkD (.tuple [a, b, c, e]) → Q (.bl b') H' := fun {b' H'} s e => by
          rw [e]
          exact k _ (s1.trans s)
        have el : isLinkD (.tuple [a, b, c, e]) = (isStrD a && (isStrD b && (isNumD c && isNumD e))) := rfl
        refine ⟨_, rfl, p, _, rfl, SqT.of ep, rfl, _, _, rfl, _, _, rfl, _, _, rfl, _, _, rfl, rfl, ?_⟩
        refine ⟨_, rfl, _, _, _, _, _, rfl, .ty _, d1.ty, kit_ty (kb_str a), _, rfl, ?_⟩
        cases h1 : isStrD a with
        | false =>
          refine iteF ?_
          exact go (Same.refl _) (by rw [el, h1]; rfl)
        | true =>
          refine iteT ?_
          refine ⟨_, rfl, _, _, _, _, _, rfl, .ty _, d2.ty, kit_ty (kb_str b), _, rfl, ?_⟩
          cases h2 : isStrD b with
          | false =>
            refine iteF ?_
            exact go (Same.refl _) (by rw [el, h1, h2]; rfl)
          | true =>
            refine iteT ?_
            refine ⟨_, rfl, _, c, rfl, d3, fun H2 s2 => ⟨_, rfl, ?_⟩⟩
            cases h3 : isNumD c with
            | false =>
              refine iteF ?_
              exact go s2 (by rw [el, h1, h2, h3]; rfl)
            | true =>
              refine iteT ?_
              refine ⟨_, rfl, _, e, rfl, d4.same s2, fun H3 s3 => ?_⟩
              exact go (s2.trans s3) (by rw [el, h1, h2, h3]; rfl)
theorem low_mem (c : Nat) : decide (c ∈ (("abcdefghijklmnopqrstuvwxyz" : Str)).cps.toList) = isLow c := by
  have e : (("abcdefghijklmnopqrstuvwxyz" : Str)).cps.toList = [97, 98, 99, 100, 101, 102, 103, 104, 105, 106, 107, 108, 109, 110, 111, 112, 113, 114, 115, 116, 117, 118, 119, 120, 121, 122] := by decide
  rw [e]
  unfold isLow
  rw [← Bool.decide_and]
  refine decide_eq_decide.mpr ?_
  simp only [List.mem_cons, List.not_mem_nil, or_false]
  omega
abbrev s_is_name : Stmt := topS 17
theorem sc_is_name : FnScope ["value", "letter"] ["value"] (defScope s_is_name) := ⟨rfl, rfl, rfl, by decide +kernel, rfl, by decide +kernel, by decide +kernel⟩
set_option maxHeartbeats 4000000 in
theorem ok_is_name (D : Df K mg "is_name" s_is_name ["value"]) (T : Txt mg) (gL : ∃ t, mg "LETTERS" = some (.str "abcdefghijklmnopqrstuvwxyz" t)) : Own P w K mg base "is_name" 1 ["value"] (spD isNameD) := by
  obtain ⟨tL, gL⟩ := gL
  refine D.own sc_is_name (fun vs H Q E h => ?_) (fun f cdv A outer s H vs Q E hr h => ?_)
  · obtain ⟨_, _, rfl, _⟩ := h
    rfl
  · obtain ⟨v, d, rfl, hv, k⟩ := h
    refine ⟨_, (pss_cons (ps_if (PW.pt (pw_or (pt_not (pt_val (pe_callB call_isi (by rfl) T.isinstance (by decide +kernel) (pa_cons (pv 0) (pa_cons (pe_bltn (v := .ty "str") (u := .type "str") (by rfl) T.str (by decide +kernel) rfl) pa_nil))))) (pw_or1 (pt_not (pt_chain op_le op_le pe_int (pe_callB call_len_str (by rfl) T.len PySem.boot_len (pa_cons (pv 0) pa_nil)) pe_int)))))
    (pss_one (ps_ret pe_bl))
    pss_nil)
  (pss_one (ps_ret (pe_callB (cr_all rfl) (by rfl) T.all (by decide +kernel) (pa_cons (pe_lc (own := [("letter", 1)]) (g := gName 1) (tt := tYes) rfl sc_is_name.nd (pi_str (pv 0)) (blkOk_by (own := [("letter", 1)]) (N := ["value", "letter"]) (sc := defScope s_is_name) (by decide +kernel)) (fun _ _ _ _ _ => (pg_name (i := 1) sc_is_name.nd rfl (Or.inl rfl))) (fun _ _ _ _ _ => pts_nil) (fun _ _ _ _ _ => (pe_cmpR op_in_sign (pv 1) (pe_glob (v := .str "abcdefghijklmnopqrstuvwxyz") rfl gL ⟨tL, rfl⟩) (by rfl)))) pa_nil))))), ?_⟩
    refine ⟨_, rfl, _, _, _, _, _, rfl, .ty _, hv.ty, kit_ty (kb_str d), _, rfl, ?_⟩
    cases hv with
    | @str x hx =>
      have hl : x.length ≤ 1000 := of_decide_eq_true (Bool.and_eq_true_iff.mp hx).2
      have hle : x.length ≤ sizeLine := Nat.le_of_lt (small1000 hl)
      have hxl : x.cps.toList.length = x.length := by
        rw [Array.length_toList]
        rfl
      refine iteF ?_
      have kk : ∀ H', Same H H' → Q (.bl (nameS x)) H' := k
      refine ⟨_, rfl, x, rfl, hle, _, _, rfl, rfl, _, rfl, ?_⟩
      by_cases h1 : 1 ≤ x.length
      · rw [decide_eq_true (show (1 : Int) ≤ (x.length : Int) by omega)]
        refine iteT ?_
        refine ⟨_, _, rfl, rfl, _, rfl, ?_⟩
        by_cases h5 : x.length ≤ 5
        · rw [decide_eq_true (show (x.length : Int) ≤ 5 by omega)]
          refine iteF ?_
          generalize hcs : x.cps.toList = cs at hxl
          refine ⟨_, rfl, x, rfl, fun L nL => lc_it walk_str (LcP H L fun i => (cs[i]?).map fun c => V.bl (isLow c)) (LcP.zero nL) (fun _ _ _ _ => trivial) ?_ ?_⟩
          · rintro i y H1 H2 hi p ⟨rfl, c, hc, rfl⟩
            have hc' : cs[i]? = some c := by
              rw [← hcs]
              simpa using hc
            have hi2 : i < cs.length := (List.getElem?_eq_some_iff.mp hc').1
            walk_at "s"
            rw [low_mem]
            exact p.yes (Same.refl _) nL (small1000 (by omega)) (by rw [hc']; rfl)
          · intro H1 p
            have e := p.lst
            have hsz : x.cps.size = cs.length := by rw [← hcs]; exact (Array.length_toList).symm
            rw [hsz, fm_get] at e
            refine ⟨L, cs.map isLow, rfl, SqL.of (by rw [e, List.map_map]; rfl), ?_⟩
            have e2 : (cs.map isLow).all id = nameS x := by
              unfold nameS
              rw [decide_eq_true h1, decide_eq_true h5, hcs, List.all_map]
              rfl
            rw [e2]
            exact kk _ p.same
        · rw [decide_eq_false (show ¬ (x.length : Int) ≤ 5 by omega)]
          refine iteT ?_
          have e2 : nameS x = false := by
            unfold nameS
            rw [decide_eq_false h5]
            simp
          rw [e2] at kk
          exact kk _ (Same.refl _)
      · rw [decide_eq_false (show ¬ (1 : Int) ≤ (x.length : Int) by omega)]
        refine iteF ?_
        refine ⟨false, rfl, ?_⟩
        refine iteT ?_
        have e2 : nameS x = false := by
          unfold nameS
          rw [decide_eq_false h1]
          rfl
        rw [e2] at kk
        exact kk _ (Same.refl _)
    | _ =>
      refine iteT ?_
      refine iteT ?_
      exact k _ (Same.refl _)
end
end My

namespace My
open PySem PySem.Spec PyProof.Rows L2
local macro_rules | `(tactic| walk_at "side") => `(tactic| first | (dsimp only; omega) | exact ⟨by omega, by omega⟩ | exact Or.inl ⟨by omega, by omega⟩ | exact Or.inr ⟨by omega, by omega⟩ | decide)
local macro_rules | `(tactic| walk_at "sq") => `(tactic| first | assumption | exact SqL.of (by assumption) | exact SqT.of (by assumption) | (refine L2.Same.seq (by assumption) ?_; walk_at "sq") | (refine L2.Same.seqT (by assumption) ?_; walk_at "sq") | exact Or.inl (by walk_at "sq") | exact Or.inr (by walk_at "sq"))
local macro_rules | `(tactic| walk_at "1") => `(tactic| first
  | refine ⟨_, rfl, iteT ?_⟩
  | refine ⟨_, rfl, iteF ?_⟩
  | refine ⟨_, rfl, ?_⟩
  | refine ⟨_, _, rfl, rfl, (by walk_at "side"), ?_⟩
  | refine ⟨_, _, rfl, rfl, ?_⟩
  | refine ⟨_, _, _, _, true, rfl, .ty _, .base (.int _), kit_ty (a := "int") (by decide +kernel), ?_⟩
  | refine ⟨_, _, _, _, false, rfl, .ty _, .base (.int _), kit_ty (a := "int") (by decide +kernel), ?_⟩
  | refine ⟨_, _, rfl, (by walk_at "sq"), ?_⟩
  | refine ⟨_, _, _, _, rfl, rfl, (by walk_at "sq"), (by first | rfl | assumption), ?_⟩
  | refine Or.inl ⟨_, _, _, _, rfl, rfl, (by walk_at "sq"), (by first | rfl | assumption), ?_⟩
  | refine Or.inr (Or.inl ⟨_, _, _, _, rfl, rfl, (by walk_at "sq"), (by first | rfl | assumption), ?_⟩)
  | refine ⟨_, _, rfl, Or.inl ⟨(by walk_at "sq"), ?_⟩⟩
  | refine ⟨rfl, ?_⟩
  | refine iteT ?_
  | refine iteF ?_
  | refine ⟨_, _, _, _, _, rfl, (by assumption), (by assumption), (by assumption), (by assumption), ?_⟩
  | refine Or.inl ⟨_, rfl, ?_⟩
  | refine Or.inr ⟨_, rfl, ?_⟩
  | refine ⟨_, _, rfl, (by walk_at "side"), ?_⟩
  | refine ⟨_, _, rfl, ?_⟩)
local macro_rules | `(tactic| walk_at "fld") => `(tactic| skip)
local macro_rules | `(tactic| walk_at "s") => `(tactic| repeat walk_at "1")
local macro_rules | `(tactic| walk_at "size") => `(tactic| first | exact Nat.le_of_ble_eq_true rfl | (simp only [List.length_map, List.length_append, List.length_cons, List.length_nil]; omega))
local macro_rules | `(tactic| walk_at "new") => `(tactic| (first | refine ⟨(by walk_at "size"), fun p hp => ?_⟩ | refine fun p hp => ?_); (generalize hq : upd _ p _ = H1); (obtain ⟨s, e⟩ := new_facts hp hq); clear hq)

open MyS
theorem small1000_2 {n : Nat} (h : n ≤ 4000) : n < sizeLine := Nat.lt_of_le_of_lt h (by decide)
/-! ## what is free, labels, calls, ends, links -/
/-- the texts of data -/
def strsD (ds : List PyData) : List Str := ds.filterMap fun d => match d with
  | .str x => some x
  | _ => none
/-- all are names, no two alike, none taken -/
def areFree (ds : List PyData) (ts : List Str) : Bool := ds.all isNameD && (decide (strsD ds).Nodup && !(strsD ds).any fun x => decide (x ∈ ts))
theorem names_str {H : Hp} : ∀ {ds : List PyData} {xs : List V}, DvAll H xs ds → ds.all isNameD = true → xs = (strsD ds).map V.str ∧ ds = (strsD ds).map PyData.str
  | [], _, h, _ => by
    rw [h.inv0]
    exact ⟨rfl, rfl⟩
  | d :: ds, _, h, a => by
    obtain ⟨x, ys, rfl, hx, t⟩ := h.inv
    obtain ⟨a1, a2⟩ := Bool.and_eq_true_iff.mp (show (isNameD d && ds.all isNameD) = true from a)
    obtain ⟨e1, e2⟩ := names_str t a2
    cases hx with
    | @str z hz =>
      refine ⟨?_, ?_⟩
      · show V.str z :: ys = V.str z :: (strsD ds).map V.str
        rw [← e1]
      · show PyData.str z :: ds = PyData.str z :: (strsD ds).map PyData.str
        rw [← e2]
    | _ => cases a1
theorem inV_str (x : Str) : ∀ ts : List Str, inV (.str x) (ts.map V.str) = decide (x ∈ ts)
  | [] => (decide_eq_false (by simp)).symm
  | t :: ts => by
    have ih := inV_str x ts
    unfold inV at ih ⊢
    rw [List.map_cons, List.any_cons, ih]
    show (t == x || decide (x ∈ ts)) = _
    rw [Bool.eq_iff_iff, Bool.or_eq_true, beq_iff_eq, decide_eq_true_iff, decide_eq_true_iff, List.mem_cons]
    exact or_congr eq_comm Iff.rfl
def spFree : Sp := fun vs H Q _ => ∃ (v : V) (d : PyData) (t : Addr) (ts : List Str), vs = [v, .ref t] ∧ Dv H v d ∧ isSeqD d = true ∧ H t = some (.lst (ts.map V.str)) ∧ ∀ H', Same H H' → Q (.bl (areFree (itemsD d) ts)) H'
section
variable {P : Program} {w : World} {K : PySem.W.Frag} {mg : Str → Option Value} {base : Heap}
abbrev s_are_free : Stmt := topS 40
theorem sc_are_free : FnScope ["names", "taken", "name"] ["names", "taken"] (defScope s_are_free) := ⟨rfl, rfl, rfl, by decide +kernel, rfl, by decide +kernel, by decide +kernel⟩
set_option maxHeartbeats 8000000 in
theorem ok_are_free (D : Df K mg "_are_free" s_are_free ["names", "taken"]) (T : Txt mg) (o_is_name : Own P w K mg base "is_name" 1 ["value"] (spD isNameD)) : Own P w K mg base "_are_free" 2 ["names", "taken"] spFree := by
  refine D.own sc_are_free (fun vs H Q E h => ?_) (fun f cdv A outer s H vs Q E hr h => ?_)
  · obtain ⟨_, _, _, _, rfl, _⟩ := h
    rfl
  · obtain ⟨v, d, t, ts, rfl, hv, hd, ht, k⟩ := h
    obtain ⟨a, xs, rfl, hS, hX, hL, _⟩ := hv.seq (K := K) hd
    have ln := hX.len
    generalize itemsD d = ds at hX hL k ln
    refine ⟨_, (pss_cons (ps_if (pt_not (pt_val (pe_callB (cr_all rfl) (by rfl) T.all (by decide +kernel) (pa_cons (pe_lc (own := [("name", 2)]) (g := gName 2) (tt := tYes) rfl sc_are_free.nd (pi_alt (pi_list (pv 0)) (pi_tup (pv 0))) (blkOk_by (own := [("name", 2)]) (N := ["names", "taken", "name"]) (sc := defScope s_are_free) (by decide +kernel)) (fun _ _ _ _ _ => (pg_name (i := 2) sc_are_free.nd rfl (Or.inl rfl))) (fun _ _ _ _ _ => pts_nil) (fun _ _ _ _ _ => (pe_own o_is_name (hr.mono (by decide)) (pa_cons (pv 2) pa_nil)))) pa_nil))))
    (pss_one (ps_ret pe_bl))
    pss_nil)
  (pss_one (ps_ret (pe_and (pe_cmpR op_eq (pe_lenSetS (by rfl) T.len (by rfl) T.set (pv 0)) (pe_callB call_len_seq (by rfl) T.len PySem.boot_len (pa_cons (pv 0) pa_nil)) (nomark _)) (pe_one (pe_not (pe_callB (cr_any rfl) (by rfl) T.any (by decide +kernel) (pa_cons (pe_lc (own := [("name", 2)]) (g := gName 2) (tt := tYes) (te := tOp (rIn K false) (tVar 2) (tVar 1)) rfl sc_are_free.nd (pi_alt (pi_list (pv 0)) (pi_tup (pv 0))) (blkOk_by (own := [("name", 2)]) (N := ["names", "taken", "name"]) (sc := defScope s_are_free) (by decide +kernel)) (fun _ _ _ _ _ => (pg_name (i := 2) sc_are_free.nd rfl (Or.inl rfl))) (fun _ _ _ _ _ => pts_nil) (fun _ _ _ _ _ => (pe_cmpR op_in_seq (pv 2) (pv 1) (by rfl)))) pa_nil)))))))), ?_⟩
    refine seq_pi hS rfl fun J hJ => fun L nL => lc_seq hJ (fun i H' => Same H H' ∧ H' L = some (.lst (((ds.take i).map isNameD).map V.bl))) ⟨same_upd nL, upd_same⟩ (fun i H' q => q.1) ?_ ?_
    · rintro i x H' hx ⟨s1, e1⟩
      obtain ⟨e, he, hxe⟩ := hX.get hx
      have hi : i < ds.length := (List.getElem?_eq_some_iff.mp he).1
      refine ⟨rfl, _, rfl, x, e, rfl, hxe.same s1, fun H2 s2 => ⟨_, s2 _ _ e1, ?_, (s1.trans s2).upd1 nL, ?_⟩⟩
      · rw [List.length_map, List.length_map, List.length_take]
        exact small1000_2 (by omega)
      · rw [upd_same, List.take_add_one, he, List.map_append, List.map_append]
        rfl
    · rintro H1 ⟨s1, e1⟩
      rw [ln, List.take_length] at e1
      refine ⟨L, ds.map isNameD, rfl, SqL.of e1, _, rfl, ?_⟩
      have ea : (ds.map isNameD).all id = ds.all isNameD := by rw [List.all_map]; rfl
      rw [ea]
      cases hall : ds.all isNameD with
      | false =>
        refine iteT ?_
        have := k H1 s1
        rw [show areFree ds ts = false by unfold areFree; rw [hall]; rfl] at this
        exact this
      | true =>
        refine iteF ?_
        obtain ⟨ex, ed⟩ := names_str hX hall
        have k2 : ∀ H', Same H H' → Q (.bl (decide (strsD ds).Nodup && !(strsD ds).any fun x => decide (x ∈ ts))) H' := fun H' s => by
          have := k H' s
          rw [show areFree ds ts = (decide (strsD ds).Nodup && !(strsD ds).any fun x => decide (x ∈ ts)) by unfold areFree; rw [hall]; rfl] at this
          exact this
        have lss : (strsD ds).length ≤ 2000 := by
          have := congrArg List.length ed
          rw [List.length_map] at this
          omega
        generalize strsD ds = ss at ex k2 lss
        subst ex
        have hS1 := s1.sqs hS
        refine ⟨_, rfl, a, ss, rfl, hS1, by omega, _, rfl, a, _, rfl, hS1, rfl, _, rfl, ?_⟩
        have en : decide (V.int (cntS ss ss.length : Nat) = V.int ((ss.map V.str).length : Nat)) = decide ss.Nodup := by
          rw [← cntS_nodup, List.length_map]
          exact decide_eq_decide.mpr ⟨fun q => by have := V.int.inj q; omega, fun q => by rw [q]⟩
        rw [en]
        cases hn : decide ss.Nodup with
        | false =>
          refine iteF ?_
          have := k2 H1 s1
          rw [hn] at this
          exact this
        | true =>
          refine iteT ?_
          refine seq_pi hS1 rfl fun J hJ => fun L2 nL2 => lc_seq hJ (fun i H' => Same H1 H' ∧ H' L2 = some (.lst (((ss.take i).map fun x => decide (x ∈ ts)).map V.bl))) ⟨same_upd nL2, upd_same⟩ (fun i H' q => q.1) ?_ ?_
          · rintro i x H' hx ⟨s2, e2⟩
            obtain ⟨y, hy, rfl⟩ : ∃ y, ss[i]? = some y ∧ x = V.str y := by
              rw [List.getElem?_map] at hx
              cases hz : ss[i]? with
              | none =>
                rw [hz] at hx
                cases hx
              | some y =>
                rw [hz] at hx
                cases hx
                exact ⟨y, rfl, rfl⟩
            have hi : i < ss.length := (List.getElem?_eq_some_iff.mp hy).1
            refine ⟨rfl, _, rfl, _, rfl, t, _, rfl, Or.inl (SqL.of (s2 _ _ (s1 _ _ ht))), rfl, flat_strs ts, _, e2, ?_, s2.upd1 nL2, ?_⟩
            · rw [List.length_map, List.length_map, List.length_take]
              exact small1000_2 (by omega)
            · rw [upd_same, List.take_add_one, hy, List.map_append, List.map_append]
              show _ = some (HO.lst (_ ++ [V.bl (decide (y ∈ ts))]))
              rw [← inV_str]
              rfl
          · rintro H2 ⟨s2, e2⟩
            rw [List.length_map, List.take_length] at e2
            refine ⟨L2, _, rfl, SqL.of e2, _, rfl, ?_⟩
            have ea : ((ss.map fun x => decide (x ∈ ts)).any id) = ss.any fun x => decide (x ∈ ts) := by rw [List.any_map]; rfl
            rw [ea]
            have := k2 H2 (s1.trans s2)
            rw [hn] at this
            exact this
end
end My

namespace My
open PySem PySem.Spec PyProof.Rows L2
local macro_rules | `(tactic| walk_at "side") => `(tactic| first | (dsimp only; omega) | exact ⟨by omega, by omega⟩ | exact Or.inl ⟨by omega, by omega⟩ | exact Or.inr ⟨by omega, by omega⟩ | decide)
local macro_rules | `(tactic| walk_at "sq") => `(tactic| first | assumption | exact SqL.of (by assumption) | exact SqT.of (by assumption) | (refine L2.Same.seq (by assumption) ?_; walk_at "sq") | (refine L2.Same.seqT (by assumption) ?_; walk_at "sq") | exact Or.inl (by walk_at "sq") | exact Or.inr (by walk_at "sq"))
local macro_rules | `(tactic| walk_at "1") => `(tactic| first
  | refine ⟨_, rfl, iteT ?_⟩
  | refine ⟨_, rfl, iteF ?_⟩
  | refine ⟨_, rfl, ?_⟩
  | refine ⟨_, _, rfl, rfl, (by walk_at "side"), ?_⟩
  | refine ⟨_, _, rfl, rfl, ?_⟩
  | refine ⟨_, _, _, _, true, rfl, .ty _, .base (.int _), kit_ty (a := "int") (by decide +kernel), ?_⟩
  | refine ⟨_, _, _, _, false, rfl, .ty _, .base (.int _), kit_ty (a := "int") (by decide +kernel), ?_⟩
  | refine ⟨_, _, rfl, (by walk_at "sq"), ?_⟩
  | refine ⟨_, _, _, _, rfl, rfl, (by walk_at "sq"), (by first | rfl | assumption), ?_⟩
  | refine Or.inl ⟨_, _, _, _, rfl, rfl, (by walk_at "sq"), (by first | rfl | assumption), ?_⟩
  | refine Or.inr (Or.inl ⟨_, _, _, _, rfl, rfl, (by walk_at "sq"), (by first | rfl | assumption), ?_⟩)
  | refine ⟨_, _, rfl, Or.inl ⟨(by walk_at "sq"), ?_⟩⟩
  | refine ⟨rfl, ?_⟩
  | refine iteT ?_
  | refine iteF ?_
  | refine ⟨_, _, _, _, _, rfl, (by assumption), (by assumption), (by assumption), (by assumption), ?_⟩
  | refine Or.inl ⟨_, rfl, ?_⟩
  | refine Or.inr ⟨_, rfl, ?_⟩
  | refine ⟨_, _, rfl, (by walk_at "side"), ?_⟩
  | refine ⟨_, _, rfl, ?_⟩)
local macro_rules | `(tactic| walk_at "fld") => `(tactic| skip)
local macro_rules | `(tactic| walk_at "s") => `(tactic| repeat walk_at "1")
local macro_rules | `(tactic| walk_at "size") => `(tactic| first | exact Nat.le_of_ble_eq_true rfl | (simp only [List.length_map, List.length_append, List.length_cons, List.length_nil]; omega))
local macro_rules | `(tactic| walk_at "new") => `(tactic| (first | refine ⟨(by walk_at "size"), fun p hp => ?_⟩ | refine fun p hp => ?_); (generalize hq : upd _ p _ = H1); (obtain ⟨s, e⟩ := new_facts hp hq); clear hq)
abbrev rLenS (K : PySem.W.Frag) : List V → Hp → VK → Prop := fun xs H Q => ∃ p ys, xs = [.ref p] ∧ (SqL K H p ys ∨ SqT K H p ys) ∧ Q (.int ys.length) H
/-! ## labels, calls, ends, links -/
/-- the label of a call, if it is a text -/
def labS : PyData → Option Str
  | .tuple (.str x :: _) => some x
  | _ => none
/-- a thing that has a text as label, or none -/
def labOk : PyData → Bool
  | .tuple (.str _ :: _) => true
  | .tuple [] => true
  | .tuple _ => false
  | _ => true
def lblS (d : PyData) : List Str := (itemsD d).filterMap labS
def isCallD : PyData → Bool
  | .tuple [a, b] => isNameD a && isNameD b
  | _ => false
/-- an end as a text -/
def isEndS (x : Str) (names labels : List Str) : Bool := decide (x ∈ names) || (decide ((Txt.partition x ".").2.1 = ".") && (decide ((Txt.partition x ".").1 ∈ labels) && nameS (Txt.partition x ".").2.2))
def endsD (begins ends labels : List Str) : PyData → Bool
  | .tuple (.str f :: .str t :: _) => isEndS f begins labels && isEndS t ends labels
  | _ => false
def isRightD (begins ends labels : List Str) (d : PyData) : Bool := isLinkD d && endsD begins ends labels d
/-- the module's name x is the def st, made under the name y -/
structure DfA (K : PySem.W.Frag) (mg : Str → Option Value) (x y : Str) (st : Stmt) (ps : List Str) : Prop where
  ex : ∃ f fd, Fun K y y st f fd ∧ mg x = some (.ref f) ∧ Binds K fd ps []
theorem DfA.own {P : Program} {w : World} {K : PySem.W.Frag} {mg : Str → Option Value} {base : Heap} {x y : Str} {st : Stmt} {ps N : List Str} {k : Nat} {sp : Sp} (D : DfA K mg x y st ps) (S : FnScope N ps (defScope st)) (len : ∀ vs H Q E, sp vs H Q E → vs.length = ps.length)
    (hbody : ∀ (f : Addr) (cdv : Value) (A : Around) (outer : List Env) (s : Shared) (H : Hp) (vs : List V) (Q : VK) (E : XK), Room k (A.deeper (envOfC y (defScope st) s.heap.objs.size f cdv)) → sp vs H Q E →
      ∃ t, PSs (cxOf CX0 P w K mg base N y (defScope st) f cdv A outer s H E).nox (defBody st) t ∧ t { nx := fun _ H' => Q .non H', rt := Q } (start N vs) H) : Own P w K mg base x (k + 1) ps sp := by
  obtain ⟨f, fd, F, m, b⟩ := D.ex
  exact ⟨f, fd, F.ok S len (hbody f), m, F.kp, b⟩
def spLabels : Sp := fun vs H Q _ => ∃ (v : V) (d : PyData), vs = [v] ∧ Dv H v d ∧ (itemsD d).all labOk = true ∧ ∀ p H', Same H H' → H p = none → H' p = some (.lst ((lblS d).map V.str)) → Q (.ref p) H'
def spEnd : Sp := fun vs H Q _ => ∃ (x : Str) (a b : Addr) (ns ls : List Str), vs = [.str x, .ref a, .ref b] ∧ okS x = true ∧ H a = some (.lst (ns.map V.str)) ∧ H b = some (.lst (ls.map V.str)) ∧ ∀ H', Same H H' → Q (.bl (isEndS x ns ls)) H'
def spRight : Sp := fun vs H Q _ => ∃ (v : V) (d : PyData) (a b c : Addr) (bs es ls : List Str), vs = [v, .ref a, .ref b, .ref c] ∧ Dv H v d ∧ H a = some (.lst (bs.map V.str)) ∧ H b = some (.lst (es.map V.str)) ∧ H c = some (.lst (ls.map V.str)) ∧ ∀ H', Same H H' → Q (.bl (isRightD bs es ls d)) H'
theorem okS_mk {x y : Str} (h : okS x = true) (c : ∀ n ∈ y.cps.toList, n ∈ x.cps.toList) (l : y.length ≤ x.length) : okS y = true := by
  obtain ⟨h1, h2⟩ := Bool.and_eq_true_iff.mp h
  refine Bool.and_eq_true_iff.mpr ⟨?_, decide_eq_true (Nat.le_trans l (of_decide_eq_true h2))⟩
  rw [← Array.all_toList, List.all_eq_true] at h1 ⊢
  exact fun n hn => h1 n (c n hn)
open TL in
theorem par_tail (S : List Nat) : ∀ (r acc a b : List Nat), par S acc r = some (a, b) → ∃ t, r = t ++ b
  | [], acc, a, b, h => by cases h
  | c :: r, acc, a, b, h => by
    cases hp : pre S (c :: r) with
    | true =>
      rw [par_hit hp] at h
      cases h
      exact ⟨(c :: r).take S.length, (List.take_append_drop ..).symm⟩
    | false =>
      rw [par_miss hp] at h
      obtain ⟨t, e⟩ := par_tail S r _ a b h
      exact ⟨c :: t, by rw [e]; rfl⟩
open TL in
set_option maxRecDepth 100000 in
theorem okS_part {x : Str} (h : okS x = true) : okS (Txt.partition x ".").2.2 = true := by
  rw [partition_par x "." (by decide)]
  cases e : par (tl ".") [] (tl x) with
  | none =>
    show okS Str.empty = true
    decide +kernel
  | some ab =>
    obtain ⟨a, b⟩ := ab
    obtain ⟨t, et⟩ := par_tail _ _ _ _ _ e
    have et' : x.cps.toList = t ++ b := et
    refine okS_mk h (fun n hn => ?_) ?_
    · rw [et']
      exact List.mem_append_right _ (by simpa using hn)
    · rw [len_tl x]
      show (b.toArray).size ≤ (tl x).length
      rw [List.size_toArray, et, List.length_append]
      omega
section
variable {P : Program} {w : World} {K : PySem.W.Frag} {mg : Str → Option Value} {base : Heap}
abbrev s_labels : Stmt := topS 41
theorem sc_labels : FnScope ["calls", "call"] ["calls"] (defScope s_labels) := ⟨rfl, rfl, rfl, by decide +kernel, rfl, by decide +kernel, by decide +kernel⟩
set_option maxHeartbeats 8000000 in
theorem ok_labels (D : Df K mg "_labels" s_labels ["calls"]) (T : Txt mg) (o_is_sequence : Own P w K mg base "is_sequence" 1 ["value"] (spD isSeqD)) : Own P w K mg base "_labels" 2 ["calls"] spLabels := by
  refine D.own sc_labels (fun vs H Q E h => ?_) (fun f cdv A outer s H vs Q E hr h => ?_)
  · obtain ⟨_, _, rfl, _⟩ := h
    rfl
  · obtain ⟨v, d, rfl, hv, hok, k⟩ := h
    refine ⟨_, (pss_cons (ps_if (pt_not (pt_val (pe_own o_is_sequence (hr.mono (by decide)) (pa_cons (pv 0) pa_nil))))
    (pss_one (ps_ret (pe_lst pa_nil)))
    pss_nil)
  (pss_one (ps_ret (pe_lc (own := [("call", 1)]) (g := gName 1) (te := tOp (rIxT K) (tVar 1) (tC (.int 0))) (tt := (tAnd (tTest (tCB (rIsi K) (tCons (tVar 1) (tCons (tC (.ty "tuple")) tNil)))) (tTest (tOp _ (tCB (rLenS K) (tCons (tVar 1) tNil)) (tC (.int 0)))))) rfl sc_labels.nd (pi_alt (pi_list (pv 0)) (pi_tup (pv 0))) (blkOk_by (own := [("call", 1)]) (N := ["calls", "call"]) (sc := defScope s_labels) (by decide +kernel)) (fun _ _ _ _ _ => (pg_name (i := 1) sc_labels.nd rfl (Or.inl rfl))) (fun _ _ _ _ _ => (pts_one (PW.pt (pw_and (pt_val (pe_callB call_isi (by rfl) T.isinstance (by decide +kernel) (pa_cons (pv 1) (pa_cons (pe_bltn (v := .ty "tuple") (u := .type "tuple") (by rfl) T.tuple (by decide +kernel) rfl) pa_nil)))) (pw_and1 (pt_cmpR op_gt (pe_callB call_len_seq (by rfl) T.len PySem.boot_len (pa_cons (pv 1) pa_nil)) pe_int (nomark _))))))) (fun _ _ _ _ _ => (pe_ix ix_tup (pv 1) pe_int (fun _ _ => rfl))))))), ?_⟩
    refine ⟨_, rfl, v, d, rfl, hv, fun H0 s0 => ⟨_, rfl, ?_⟩⟩
    cases hd : isSeqD d with
    | false =>
      refine iteT ?_
      refine new_lst (Nat.zero_le _) fun p H' s' n' e' => k p H' (s0.trans s') (s0.free n') ?_
      rw [e', show lblS d = [] by
        unfold lblS
        cases d <;> first | rfl | cases hd]
      rfl
    | true =>
      refine iteF ?_
      obtain ⟨a, xs, rfl, hS, hX, hL, _⟩ := (hv.same s0).seq (K := K) hd
      have ln := hX.len
      have k' : ∀ p H', Same H H' → H p = none → H' p = some (.lst (((itemsD d).filterMap labS).map V.str)) → Q (.ref p) H' := k
      generalize itemsD d = ds at hX hL k' ln hok
      refine seq_pi hS rfl fun J hJ => fun L nL => lc_seq hJ (LcP H0 L fun i => (ds[i]?).bind fun d => (labS d).map V.str) (LcP.zero nL) (fun i H' q => q.same) ?_ ?_
      · rintro i x H' hx q
        obtain ⟨e, he, hxe⟩ := hX.get hx
        have hi : i < ds.length := (List.getElem?_eq_some_iff.mp he).1
        have he1 : labOk e = true := List.all_eq_true.mp hok e (List.mem_of_getElem? he)
        have hxe := hxe.same q.same
        refine ⟨rfl, _, rfl, _, _, _, _, _, rfl, .ty _, hxe.ty, kit_ty (kb_tuple e), _, rfl, ?_⟩
        have fno : ∀ {o : Option V}, (labS e).map V.str = o → ((ds[i]?).bind fun d => (labS d).map V.str) = o := fun h => by rw [he]; exact h
        cases hxe with
        | @tup a2 ys es e2 h2 sm2 =>
          refine iteT ?_
          refine ⟨_, rfl, a2, ys, rfl, Or.inr (SqT.of e2), _, _, rfl, rfl, _, rfl, ?_⟩
          cases h2 with
          | nil =>
            exact q.no (Same.refl _) (fno rfl)
          | @cons y d0 ys ds0 hy ht =>
            show if decide ((0 : Int) < ((y :: ys).length : Int)) = true then _ else _
            rw [decide_eq_true (show (0 : Int) < ((y :: ys).length : Int) by rw [List.length_cons]; omega)]
            refine iteT ?_
            refine ⟨_, rfl, a2, y :: ys, _, y, rfl, rfl, SqT.of e2, (show atI (y :: ys) ((0 : Nat) : Int) = some y from atI_nat rfl), ?_⟩
            cases hy with
            | @str z hz => exact q.yes (Same.refl _) nL (small1000_2 (by omega)) (fno rfl)
            | _ => cases he1
        | _ =>
          refine iteF ?_
          exact q.no (Same.refl _) (fno rfl)
      · intro H1 q
        have e := q.lst
        rw [ln, fm_opt] at e
        refine k' L H1 (s0.trans q.same) (s0.free nL) ?_
        rw [e, List.map_filterMap]
abbrev s_is_call : Stmt := topS 42
theorem sc_is_call : FnScope ["call"] ["call"] (defScope s_is_call) := ⟨rfl, rfl, rfl, by decide +kernel, rfl, by decide +kernel, by decide +kernel⟩
theorem isTupN2 {d : PyData} (h : isTupND 2 d = true) : ∃ a b, d = .tuple [a, b] := by
  cases d with
  | tuple ds =>
    have l : (ds.length : Int) = 2 := of_decide_eq_true h
    match ds, l with
    | [a, b], _ => exact ⟨a, b, rfl⟩
    | [], l => simp at l
    | [_], l => simp at l
    | _ :: _ :: _ :: r, l => simp only [List.length_cons] at l; omega
  | _ => cases h
theorem isCall_no {d : PyData} (h : isTupND 2 d = false) : isCallD d = false := by
  cases d with
  | tuple ds =>
    match ds with
    | [a, b] => exact absurd h (by simp [isTupND])
    | [] => rfl
    | [_] => rfl
    | _ :: _ :: _ :: _ => rfl
  | _ => rfl
set_option maxHeartbeats 4000000 in
theorem ok_is_call (D : Df K mg "_is_call" s_is_call ["call"]) (o_is_tuple_of : Own P w K mg base "is_tuple_of" 1 ["value", "many"] spTupOf) (o_is_name : Own P w K mg base "is_name" 1 ["value"] (spD isNameD)) : Own P w K mg base "_is_call" 2 ["call"] (spD isCallD) := by
  refine D.own sc_is_call (fun vs H Q E h => ?_) (fun f cdv A outer s H vs Q E hr h => ?_)
  · obtain ⟨_, _, rfl, _⟩ := h
    rfl
  · obtain ⟨v, d, rfl, hv, k⟩ := h
    refine ⟨_, (pss_one (ps_ret (pe_and (pe_own o_is_tuple_of (hr.mono (by decide)) (pa_cons (pv 0) (pa_cons pe_int pa_nil))) (pe_and (pe_own o_is_name (hr.mono (by decide)) (pa_cons (pe_ix ix_tup (pv 0) pe_int (fun _ _ => rfl)) pa_nil)) (pe_one (pe_own o_is_name (hr.mono (by decide)) (pa_cons (pe_ix ix_tup (pv 0) pe_int (fun _ _ => rfl)) pa_nil))))))), ?_⟩
    refine ⟨_, rfl, v, d, 2, rfl, hv, fun H1 s1 => ⟨_, rfl, ?_⟩⟩
    cases ht : isTupND 2 d with
    | false =>
      refine iteF ?_
      have := k _ s1
      rw [isCall_no ht] at this
      exact this
    | true =>
      refine iteT ?_
      obtain ⟨a, b, rfl⟩ := isTupN2 ht
      have hv1 := hv.same s1
      cases hv1 with
      | @tup p xs _ ep hx sm =>
        obtain ⟨x1, ys, rfl, d1, hx⟩ := hx.inv
        obtain ⟨x2, ys, rfl, d2, hx⟩ := hx.inv
        obtain rfl := hx.inv0
        have el : isCallD (.tuple [a, b]) = (isNameD a && isNameD b) := rfl
        refine ⟨_, rfl, p, _, _, _, rfl, rfl, SqT.of ep, rfl, x1, a, rfl, d1, fun H2 s2 => ⟨_, rfl, ?_⟩⟩
        cases h1 : isNameD a with
        | false =>
          refine iteF ?_
          have := k _ (s1.trans s2)
          rw [el, h1] at this
          exact this
        | true =>
          refine iteT ?_
          refine ⟨_, rfl, p, _, _, _, rfl, rfl, SqT.of (s2 _ _ ep), rfl, x2, b, rfl, d2.same s2, fun H3 s3 => ?_⟩
          have := k _ (s1.trans (s2.trans s3))
          rw [el, h1] at this
          exact this
abbrev s_is_end : Stmt := topS 44
theorem sc_is_end : FnScope ["end", "names", "labels", "label", "point", "name"] ["end", "names", "labels"] (defScope s_is_end) := ⟨rfl, rfl, rfl, by decide +kernel, rfl, by decide +kernel, by decide +kernel⟩
set_option maxHeartbeats 4000000 in
theorem ok_is_end (D : DfA K mg "is_end_houses" "_is_end" s_is_end ["end", "names", "labels"]) (o_is_name : Own P w K mg base "is_name" 1 ["value"] (spD isNameD)) : Own P w K mg base "is_end_houses" 2 ["end", "names", "labels"] spEnd := by
  refine D.own sc_is_end (fun vs H Q E h => ?_) (fun f cdv A outer s H vs Q E hr h => ?_)
  · obtain ⟨_, _, _, _, _, rfl, _⟩ := h
    rfl
  · obtain ⟨x, a, b, ns, ls, rfl, hx, ha, hb, k⟩ := h
    refine ⟨_, (pss_cons (ps_if (pt_cmpR op_in_seq (pv 0) (pv 1) (by rfl))
    (pss_one (ps_ret pe_bl))
    pss_nil)
  (pss_cons (ps_asg (pe_m1 PySem.F.slot_str_partition PySem.F.type_str_partition mt_partition (pv 0) pe_str) (pg_tup (by rfl) (pgs_cons (pg_name (i := 3) sc_is_end.nd rfl (Or.inl rfl)) (pgs_cons (pg_name (i := 4) sc_is_end.nd rfl (Or.inl rfl)) (pgs_cons (pg_name (i := 5) sc_is_end.nd rfl (Or.inl rfl)) pgs_nil)))))
  (pss_one (ps_ret (pe_and (pe_cmpR op_eq (pv 4) pe_str (nomark _)) (pe_and (pe_cmpR op_in_seq (pv 3) (pv 2) (by rfl)) (pe_one (pe_own o_is_name (hr.mono (by decide)) (pa_cons (pv 5) pa_nil))))))))), ?_⟩
    refine ⟨_, rfl, _, rfl, a, _, rfl, Or.inl (SqL.of ha), rfl, flat_strs ns, _, rfl, ?_⟩
    rw [inV_str]
    have el : isEndS x ns ls = (decide (x ∈ ns) || (decide ((Txt.partition x ".").2.1 = ".") && (decide ((Txt.partition x ".").1 ∈ ls) && nameS (Txt.partition x ".").2.2))) := rfl
    cases h1 : decide (x ∈ ns) with
    | true =>
      refine iteT ?_
      have := k H (Same.refl _)
      rw [el, h1] at this
      exact this
    | false =>
      refine iteF ?_
      have hl : x.length ≤ 1000 := of_decide_eq_true (Bool.and_eq_true_iff.mp hx).2
      have k2 : ∀ H', Same H H' → Q (.bl (decide ((Txt.partition x ".").2.1 = ".") && (decide ((Txt.partition x ".").1 ∈ ls) && nameS (Txt.partition x ".").2.2))) H' := fun H' s' => by
        have := k H' s'
        rw [el, h1] at this
        exact this
      have ok3 := okS_part hx
      refine ⟨_, rfl, ⟨_, rfl⟩, x, ".", rfl, rfl, by rfl, Nat.le_of_lt (small1000 hl), fun p np => ?_⟩
      generalize hq : upd H p _ = H1
      obtain ⟨s1, e1⟩ := new_facts np hq
      generalize Txt.partition x "." = tr at e1 k2 ok3
      obtain ⟨t1, t2, t3⟩ := tr
      refine ⟨p, _, rfl, SqT.of e1, rfl, _, _, rfl, _, _, rfl, _, _, rfl, rfl, ?_⟩
      refine ⟨_, rfl, rfl, _, rfl, ?_⟩
      have ed : decide (V.str t2 = V.str ".") = decide (t2 = ".") := decide_eq_decide.mpr ⟨V.str.inj, fun q => by rw [q]⟩
      rw [ed]
      cases h2 : decide (t2 = ".") with
      | false =>
        refine iteF ?_
        have := k2 H1 s1
        rw [h2] at this
        exact this
      | true =>
        refine iteT ?_
        refine ⟨_, rfl, _, rfl, b, _, rfl, Or.inl (SqL.of (s1 _ _ hb)), rfl, flat_strs ls, _, rfl, ?_⟩
        rw [inV_str]
        cases h3 : decide (t1 ∈ ls) with
        | false =>
          refine iteF ?_
          have := k2 H1 s1
          rw [h2, h3] at this
          exact this
        | true =>
          refine iteT ?_
          refine ⟨_, rfl, .str t3, .str t3, rfl, .str ok3, fun H2 s2 => ?_⟩
          have := k2 H2 (s1.trans s2)
          rw [h2, h3] at this
          exact this
abbrev s_is_right_link : Stmt := topS 43
theorem sc_is_right_link : FnScope ["link", "begins", "ends", "labels"] ["link", "begins", "ends", "labels"] (defScope s_is_right_link) := ⟨rfl, rfl, rfl, by decide +kernel, rfl, by decide +kernel, by decide +kernel⟩
theorem right_no {d : PyData} {bs es ls : List Str} (h : isLinkD d = false) : isRightD bs es ls d = false := by
  unfold isRightD
  rw [h, Bool.false_and]
theorem link_yes {d : PyData} (h : isLinkD d = true) : ∃ f t m l, d = .tuple [.str f, .str t, m, l] ∧ (isNumD m && isNumD l) = true := by
  unfold isLinkD at h
  split at h
  · rename_i f t m l
    obtain ⟨h1, h2⟩ := Bool.and_eq_true_iff.mp h
    obtain ⟨h2, h3⟩ := Bool.and_eq_true_iff.mp h2
    cases f <;> try cases h1
    cases t <;> try cases h2
    exact ⟨_, _, m, l, rfl, h3⟩
  · cases h
set_option maxHeartbeats 4000000 in
theorem ok_is_right (D : Df K mg "_is_right_link" s_is_right_link ["link", "begins", "ends", "labels"]) (o_is_link : Own P w K mg base "is_link" 3 ["value"] (spD isLinkD)) (o_is_end_houses : Own P w K mg base "is_end_houses" 2 ["end", "names", "labels"] spEnd) : Own P w K mg base "_is_right_link" 4 ["link", "begins", "ends", "labels"] spRight := by
  refine D.own sc_is_right_link (fun vs H Q E h => ?_) (fun f cdv A outer s H vs Q E hr h => ?_)
  · obtain ⟨_, _, _, _, _, _, _, _, rfl, _⟩ := h
    rfl
  · obtain ⟨v, d, a, b, c, bs, es, ls, rfl, hv, ha, hb, hc, k⟩ := h
    refine ⟨_, (pss_one (ps_ret (pe_and (pe_own o_is_link (hr.mono (by decide)) (pa_cons (pv 0) pa_nil)) (pe_and (pe_own o_is_end_houses (hr.mono (by decide)) (pa_cons (pe_ix ix_tup (pv 0) pe_int (fun _ _ => rfl)) (pa_cons (pv 1) (pa_cons (pv 3) pa_nil)))) (pe_one (pe_own o_is_end_houses (hr.mono (by decide)) (pa_cons (pe_ix ix_tup (pv 0) pe_int (fun _ _ => rfl)) (pa_cons (pv 2) (pa_cons (pv 3) pa_nil))))))))), ?_⟩
    refine ⟨_, rfl, v, d, rfl, hv, fun H1 s1 => ⟨_, rfl, ?_⟩⟩
    cases ht : isLinkD d with
    | false =>
      refine iteF ?_
      have := k _ s1
      rw [right_no ht] at this
      exact this
    | true =>
      refine iteT ?_
      obtain ⟨f, t, m, l, rfl, hn⟩ := link_yes ht
      have el : isRightD bs es ls (.tuple [.str f, .str t, m, l]) = (isEndS f bs ls && isEndS t es ls) := by
        show ((isNumD m && isNumD l) && (isEndS f bs ls && isEndS t es ls)) = _
        rw [hn, Bool.true_and]
      have hv1 := hv.same s1
      cases hv1 with
      | @tup p xs _ ep hx sm =>
        obtain ⟨x1, ys, rfl, d1, hx⟩ := hx.inv
        obtain ⟨x2, ys, rfl, d2, hx⟩ := hx.inv
        obtain ⟨x3, ys, rfl, d3, hx⟩ := hx.inv
        obtain ⟨x4, ys, rfl, d4, hx⟩ := hx.inv
        obtain rfl := hx.inv0
        cases d1 with
        | str o1 =>
        cases d2 with
        | str o2 =>
        refine ⟨_, rfl, p, _, _, _, rfl, rfl, SqT.of ep, rfl, _, rfl, _, rfl, f, a, c, bs, ls, rfl, o1, s1 _ _ ha, s1 _ _ hc, fun H2 s2 => ⟨_, rfl, ?_⟩⟩
        have s12 := s1.trans s2
        cases h1 : isEndS f bs ls with
        | false =>
          refine iteF ?_
          have := k _ s12
          rw [el, h1] at this
          exact this
        | true =>
          refine iteT ?_
          refine ⟨_, rfl, p, _, _, _, rfl, rfl, SqT.of (s2 _ _ ep), rfl, _, rfl, _, rfl, t, b, c, es, ls, rfl, o2, s12 _ _ hb, s12 _ _ hc, fun H3 s3 => ?_⟩
          have := k _ (s12.trans s3)
          rw [el, h1] at this
          exact this
end
end My

namespace My
open PySem PySem.Spec PyProof.Rows L2
local macro_rules | `(tactic| walk_at "wp_side") => `(tactic| first | (dsimp only; omega) | exact ⟨by omega, by omega⟩ | exact Or.inl ⟨by omega, by omega⟩ | exact Or.inr ⟨by omega, by omega⟩ | decide)
local macro_rules | `(tactic| walk_at "wp1") => `(tactic| first
  | refine ⟨_, rfl, ?_⟩
  | refine ⟨_, _, rfl, rfl, (by walk_at "wp_side"), ?_⟩
  | refine ⟨_, _, rfl, rfl, ?_⟩
  | refine ⟨_, _, _, _, rfl, rfl, SqL.of (by first | assumption | exact upd_same), rfl, ?_⟩
  | refine ⟨_, _, _, _, rfl, rfl, (by first | assumption | exact upd_same), rfl, ?_⟩
  | refine ⟨_, _, rfl, Or.inl (by assumption), ?_⟩
  | refine Or.inl ⟨_, rfl, ?_⟩)
local macro_rules | `(tactic| walk_at "wps") => `(tactic| repeat walk_at "wp1")
local macro_rules | `(tactic| walk_at "side") => `(tactic| first | (dsimp only; omega) | exact ⟨by omega, by omega⟩ | exact Or.inl ⟨by omega, by omega⟩ | exact Or.inr ⟨by omega, by omega⟩ | decide)
local macro_rules | `(tactic| walk_at "sq") => `(tactic| first | assumption | exact SqL.of (by assumption) | exact SqT.of (by assumption) | (refine L2.Same.seq (by assumption) ?_; walk_at "sq") | (refine L2.Same.seqT (by assumption) ?_; walk_at "sq") | exact Or.inl (by walk_at "sq") | exact Or.inr (by walk_at "sq"))
local macro_rules | `(tactic| walk_at "1") => `(tactic| first
  | refine ⟨_, rfl, iteT ?_⟩
  | refine ⟨_, rfl, iteF ?_⟩
  | refine ⟨_, rfl, ?_⟩
  | refine ⟨_, _, rfl, rfl, (by walk_at "side"), ?_⟩
  | refine ⟨_, _, rfl, rfl, ?_⟩
  | refine ⟨_, _, _, _, true, rfl, .ty _, .base (.int _), kit_ty (a := "int") (by decide +kernel), ?_⟩
  | refine ⟨_, _, _, _, false, rfl, .ty _, .base (.int _), kit_ty (a := "int") (by decide +kernel), ?_⟩
  | refine ⟨_, _, rfl, (by walk_at "sq"), ?_⟩
  | refine ⟨_, _, _, _, rfl, rfl, (by walk_at "sq"), (by first | rfl | assumption), ?_⟩
  | refine Or.inl ⟨_, _, _, _, rfl, rfl, (by walk_at "sq"), (by first | rfl | assumption), ?_⟩
  | refine Or.inr (Or.inl ⟨_, _, _, _, rfl, rfl, (by walk_at "sq"), (by first | rfl | assumption), ?_⟩)
  | refine ⟨_, _, rfl, Or.inl ⟨(by walk_at "sq"), ?_⟩⟩
  | refine ⟨rfl, ?_⟩
  | refine iteT ?_
  | refine iteF ?_
  | refine ⟨_, _, _, _, _, rfl, (by assumption), (by assumption), (by assumption), (by assumption), ?_⟩
  | refine Or.inl ⟨_, rfl, ?_⟩
  | refine ⟨_, _, rfl, (by walk_at "side"), ?_⟩
  | refine ⟨_, _, rfl, ?_⟩)
local macro_rules | `(tactic| walk_at "fld") => `(tactic| skip)
local macro_rules | `(tactic| walk_at "s") => `(tactic| repeat walk_at "1")
local macro_rules | `(tactic| walk_at "size") => `(tactic| first | exact Nat.le_of_ble_eq_true rfl | (simp only [List.length_map, List.length_append, List.length_cons, List.length_nil]; omega))
local macro_rules | `(tactic| walk_at "new") => `(tactic| (first | refine ⟨(by walk_at "size"), fun p hp => ?_⟩ | refine fun p hp => ?_); (generalize hq : upd _ p _ = H1); (obtain ⟨s, e⟩ := new_facts hp hq); clear hq)

theorem upd_facts {H H1 : Hp} {p : Addr} {o : HO} (hq : upd H p o = H1) : H1 p = some o ∧ ∀ b, b ≠ p → H1 b = H b := by
  subst hq
  exact ⟨upd_same, fun b h => upd_ne h⟩

/-- a box of draws -/
def BoxAt (H : Hp) (b : Addr) : Prop := ∃ x y z : Int, 0 ≤ x ∧ H b = some (.lst [.int x, .int y, .int z])
/-- all but the box stands -/
def Bx (b : Addr) (H H' : Hp) : Prop := ∀ c o, c ≠ b → H c = some o → H' c = some o
theorem Bx.of {b : Addr} {H H' : Hp} (s : Same H H') : Bx b H H' := fun c o _ e => s c o e
theorem Bx.trans {b : Addr} {H H1 H2 : Hp} (s : Bx b H H1) (t : Bx b H1 H2) : Bx b H H2 := fun c o n e => t c o n (s c o n e)
theorem Bx.upd {b : Addr} {H : Hp} {o : HO} : Bx b H (upd H b o) := fun c x n e => by
  rw [upd_ne n]
  exact e
theorem Bx.same {b : Addr} {H0 H H' : Hp} (s : Bx b H H') (h : Same H0 H) (n : H0 b = none) : Same H0 H' := fun c o e => s c o (ne_of_none e n) (h c o e)
theorem BoxAt.same {b : Addr} {H H' : Hp} (h : BoxAt H b) (s : Same H H') : BoxAt H' b := by
  obtain ⟨x, y, z, h0, h1⟩ := h
  exact ⟨x, y, z, h0, s _ _ h1⟩
theorem BoxAt.ne {b p : Addr} {H : Hp} (h : BoxAt H b) (n : H p = none) : p ≠ b := by
  obtain ⟨x, y, z, h0, h1⟩ := h
  exact (ne_of_none h1 n).symm
def spTake : Sp := fun vs H Q _ => ∃ (b : Addr) (m : Nat), vs = [.ref b, .int m] ∧ 0 < m ∧ m < 1073741824 ∧ BoxAt H b ∧ ∀ (H' : Hp) (n : Nat), n < m → Bx b H H' → BoxAt H' b → Q (.int n) H'
def spBox (K : PySem.W.Frag) : Sp := fun vs H Q _ => ∃ (a : Addr) (ns : List Int) (k : Nat) (own : Int), vs = [.ref a, .int k, .int own] ∧ SqL K H a (ns.map V.int) ∧ ns.length ≤ 63 ∧
  ∀ (H' : Hp) (p : Addr), Same H H' → H p = none → BoxAt H' p → Q (.ref p) H'
section
variable {P : Program} {w : World} {K : PySem.W.Frag} {mg : Str → Option Value} {base : Heap} {C : Addr}
abbrev s_law_take : Stmt := topS 50
theorem sc_law_take : FnScope ["box", "many", "digit", "raw", "wide"] ["box", "many"] (defScope s_law_take) := ⟨rfl, rfl, rfl, by decide +kernel, rfl, by decide +kernel, by decide +kernel⟩
theorem ok_take (D : Df K mg "_law_take" s_law_take ["box", "many"]) (T : Txt mg) : Own P w K mg base "_law_take" 1 ["box", "many"] spTake := by
  refine D.own sc_law_take (fun vs H Q E h => ?_) (fun fa cdv A outer s H vs Q E hr h => ?_)
  · obtain ⟨_, _, rfl, _⟩ := h
    rfl
  · obtain ⟨b, m, rfl, m0, m1, ⟨x, y, z, x0, hb⟩, k⟩ := h
    have h8 : (0:Int) < 8191 ∧ (8191:Int) < 1073741824 := by decide
    have fin : ∀ (i x' y' z' : Int), 0 ≤ i → i < m → 0 ≤ x' → Q (.int i) (upd H b (.lst [.int x', .int y', .int z'])) := fun i x' y' z' i0 i1 hx => by
      have := k (upd H b (.lst [.int x', .int y', .int z'])) i.toNat (by omega) Bx.upd ⟨x', y', z', hx, upd_same⟩
      rw [show ((i.toNat : Nat) : Int) = i by omega] at this
      exact this
    refine ⟨_, (pss_cons (ps_if (pt_cmpR op_gt (pe_ix ix_list (pv 0) pe_int (fun _ _ => rfl)) pe_int (nomark _))
    (pss_cons (ps_set (i := 2) sc_law_take.nd rfl (Or.inl rfl) (pe_op op_mod (pe_callTy call_int1 (by rfl) T.int (by decide +kernel) (pa_cons (pe_ix ix_list (pv 0) pe_int (fun _ _ => rfl)) pa_nil)) (pv 1)))
      (pss_cons (ps_asg (pe_op op_fdiv (pe_ix ix_list (pv 0) pe_int (fun _ _ => rfl)) (pv 1)) (pg_sub (pv 0) pe_int set_list))
      (pss_one (ps_ret (pv 2)))))
    pss_nil)
  (pss_cons (ps_asg (pe_op op_add (pe_ix ix_list (pv 0) pe_int (fun _ _ => rfl)) pe_int) (pg_sub (pv 0) pe_int set_list))
  (pss_cons (ps_set (i := 3) sc_law_take.nd rfl (Or.inl rfl) (pe_op op_mod (pe_callTy call_int1 (by rfl) T.int (by decide +kernel) (pa_cons (pe_op op_mul (pe_op op_add (pe_ix ix_list (pv 0) pe_int (fun _ _ => rfl)) (pe_op op_mul pe_int (pe_ix ix_list (pv 0) pe_int (fun _ _ => rfl)))) pe_int) pa_nil)) pe_int))
  (pss_cons (ps_asg (pe_op op_add (pe_op op_mod (pe_callTy call_int1 (by rfl) T.int (by decide +kernel) (pa_cons (pe_op op_add (pe_op op_mul (pv 3) pe_int) pe_int) pa_nil)) pe_int) pe_int) (pg_sub (pv 0) pe_int set_list))
  (pss_cons (ps_if (pt_cmpR op_lt (pv 1) (pe_op op_pow pe_int pe_int) (nomark _))
    (pss_one (ps_ret (pe_op op_mod (pe_callTy call_int1 (by rfl) T.int (by decide +kernel) (pa_cons (pe_op op_fdiv (pe_op op_add (pe_op op_mul (pv 3) pe_int) (pe_ix ix_list (pv 0) pe_int (fun _ _ => rfl))) pe_int) pa_nil)) (pv 1))))
    pss_nil)
  (pss_cons (ps_set (i := 4) sc_law_take.nd rfl (Or.inl rfl) (pe_op op_mul (pe_op op_add (pe_op op_mul (pv 3) pe_int) (pe_ix ix_list (pv 0) pe_int (fun _ _ => rfl))) (pe_op op_pow pe_int pe_int)))
  (pss_one (ps_ret (pe_op op_mod (pe_callTy call_int1 (by rfl) T.int (by decide +kernel) (pa_cons (pe_op op_add (pe_op op_add (pv 4) (pe_op op_mul (pe_op op_pow (pe_ix ix_list (pv 0) pe_int (fun _ _ => rfl)) pe_int) pe_int)) (pv 3)) pa_nil)) (pv 1)))))))))), ?_⟩
    walk_at "wps"
    refine ite2 (fun c => ?_) (fun c => ?_)
    · have c' : 0 < x := by simpa using c
      walk_at "wps"
      exact fin _ _ _ _ (Int.emod_nonneg _ (by omega)) (Int.emod_lt_of_pos _ (by omega)) (Int.ediv_nonneg x0 (by omega))
    · iterate 26 (walk_at "wp1")
      have big : (m : Int) < (2 : Int) ^ (40 : Int).toNat := Int.lt_trans (by omega) (by decide : (1073741824 : Int) < (2 : Int) ^ (40 : Int).toNat)
      rw [decide_eq_true big]
      refine iteT ?_
      walk_at "wps"
      rw [upd_upd]
      exact fin _ _ _ _ (Int.emod_nonneg _ (by omega)) (Int.emod_lt_of_pos _ (by omega)) x0
abbrev s_law_box : Stmt := topS 49
theorem sc_law_box : FnScope ["script", "k", "own", "cell", "seed"] ["script", "k", "own"] (defScope s_law_box) := ⟨rfl, rfl, rfl, by decide +kernel, rfl, by decide +kernel, by decide +kernel⟩
theorem ok_box (D : Df K mg "_law_box" s_law_box ["script", "k", "own"]) (T : Txt mg) : Own P w K mg base "_law_box" 1 ["script", "k", "own"] (spBox K) := by
  refine D.own sc_law_box (fun vs H Q E h => ?_) (fun fa cdv A outer s H vs Q E hr h => ?_)
  · obtain ⟨_, _, _, _, rfl, _⟩ := h
    rfl
  · obtain ⟨a, ns, k, own, rfl, hS, hlen, kk⟩ := h
    refine ⟨_, (pss_cons (ps_set (i := 3) sc_law_box.nd rfl (Or.inl rfl) (pe_op op_add (pe_op op_add (pe_op op_mul pe_int (pv 1)) (pe_op op_mul pe_int (pv 2))) pe_int))
  (C8.pss_cut (ps_if (pt_cmpR op_lt (pv 1) (pe_callB call_len_seq (by rfl) T.len PySem.boot_len (pa_cons (pv 0) pa_nil)) (nomark _))
    (pss_one (ps_set (i := 3) sc_law_box.nd rfl (Or.inl rfl) (pe_callB call_abs (by rfl) T.abs (by decide +kernel) (pa_cons (pe_ix ix_list (pv 0) (pv 1) (fun _ _ => rfl)) pa_nil))))
    (pss_one (ps_if (pt_cmpR op_gt (pe_callB call_len_seq (by rfl) T.len PySem.boot_len (pa_cons (pv 0) pa_nil)) pe_int (nomark _))
        (pss_one (ps_set (i := 3) sc_law_box.nd rfl (Or.inl rfl) (pe_op op_add (pv 3) (pe_op op_mul (pe_op op_mod (pe_callTy call_int1 (by rfl) T.int (by decide +kernel) (pa_cons (pe_callB call_abs (by rfl) T.abs (by decide +kernel) (pa_cons (pe_ix ix_list (pv 0) (pe_op op_mod (pe_callTy call_int1 (by rfl) T.int (by decide +kernel) (pa_cons (pv 1) pa_nil)) (pe_callB call_len_seq (by rfl) T.len PySem.boot_len (pa_cons (pv 0) pa_nil))) (fun _ _ => rfl)) pa_nil)) pa_nil)) pe_int) pe_int))))
        pss_nil)))
  (pss_cons (ps_set (i := 4) sc_law_box.nd rfl (Or.inl rfl) (pe_op op_add (pe_op op_mod (pe_callTy call_int1 (by rfl) T.int (by decide +kernel) (pa_cons (pe_op op_add (pe_op op_mul (pe_op op_mod (pe_callTy call_int1 (by rfl) T.int (by decide +kernel) (pa_cons (pv 3) pa_nil)) pe_int) pe_int) (pe_op op_mul pe_int (pe_op op_add (pv 1) (pe_op op_mul pe_int (pv 2))))) pa_nil)) pe_int) pe_int))
  (pss_one (ps_ret (pe_lst (pa_cons (pe_ix ix_list (pe_lst (pa_cons pe_int (pa_cons (pv 3) pa_nil))) (pe_callTy call_int1 (by rfl) T.int (by decide +kernel) (pa_cons (pe_cmpR op_ge (pv 3) (pe_op op_pow pe_int pe_int) (nomark _)) pa_nil)) (fun _ _ => rfl)) (pa_cons (pv 4) (pa_cons pe_int pa_nil))))))))), ?_⟩
    walk_at "wps"
    refine ⟨fun σ' H' => (∃ c : Int, σ' = [some (.ref a), some (.int (k : Int)), some (.int own), some (.int c), none]) ∧ H' = H, ?_, ?_⟩
    · walk_at "wps"
      have hl : ((ns.map V.int).length : Int) = (ns.length : Int) := by rw [List.length_map]
      refine ite2 (fun c => ?_) (fun c => ?_)
      · have c' : k < ns.length := by
          have c2 : (k : Int) < ((ns.map V.int).length : Int) := by simpa using c
          omega
        walk_at "wps"
        refine ⟨_, _, _, _, rfl, rfl, hS, atI_nat (List.getElem?_eq_getElem (by rw [List.length_map]; exact c')), ?_⟩
        rw [List.getElem_map]
        walk_at "wps"
        exact ⟨⟨_, rfl⟩, rfl⟩
      · walk_at "wps"
        refine ite2 (fun d => ?_) (fun d => ?_)
        · have d' : 0 < ns.length := by
            have d2 : (0 : Int) < ((ns.map V.int).length : Int) := by simpa using d
            omega
          have hm : (k : Int) % ((ns.map V.int).length : Int) = ((k % ns.length : Nat) : Int) := by rw [hl]; simp
          have lt : k % ns.length < (ns.map V.int).length := by rw [List.length_map]; exact Nat.mod_lt _ d'
          walk_at "wps"
          refine ⟨_, _, _, _, rfl, rfl, hS, at_of hm (List.getElem?_eq_getElem lt), ?_⟩
          rw [List.getElem_map]
          walk_at "wps"
          exact ⟨⟨_, rfl⟩, rfl⟩
        · exact ⟨⟨_, rfl⟩, rfl⟩
    · rintro σ' H' ⟨⟨c, rfl⟩, rfl⟩
      walk_at "wps"
      refine ⟨Nat.le_of_ble_eq_true rfl, fun q hq => ?_⟩
      walk_at "wps"
      refine Or.inr ⟨_, rfl, ?_⟩
      have s1 : Same H' (upd H' q (.lst [.int 0, .int c])) := fun b o e => by
        rw [upd_ne (ne_of_none e hq)]
        exact e
      have fin : ∀ x : Int, 0 ≤ x → ∀ y : Int, ∀ p : Addr, upd H' q (.lst [.int 0, .int c]) p = none → Q (.ref p) (upd (upd H' q (.lst [.int 0, .int c])) p (.lst [.int x, .int y, .int 0])) := fun x x0 y p hp =>
        kk _ p (s1.trans fun b o e => by rw [upd_ne (ne_of_none e hp)]; exact e) (s1.free hp) ⟨x, y, 0, x0, upd_same⟩
      by_cases big : (10 : Int) ^ (18 : Int).toNat ≤ c
      · rw [decide_eq_true big]
        refine ⟨_, _, _, _, rfl, rfl, SqL.of upd_same, rfl, ?_⟩
        walk_at "wps"
        exact ⟨Nat.le_of_ble_eq_true rfl, fun p hp => fin c (Int.le_trans (by decide) big) _ p hp⟩
      · rw [decide_eq_false big]
        refine ⟨_, _, _, _, rfl, rfl, SqL.of upd_same, rfl, ?_⟩
        walk_at "wps"
        exact ⟨Nat.le_of_ble_eq_true rfl, fun p hp => fin 0 (Int.le_refl _) _ p hp⟩
abbrev s_law_pick : Stmt := topS 51
theorem sc_law_pick : FnScope ["box", "items"] ["box", "items"] (defScope s_law_pick) := ⟨rfl, rfl, rfl, by decide +kernel, rfl, by decide +kernel, by decide +kernel⟩
def spPick : Sp := fun vs H Q _ => ∃ (b a : Addr) (xs : List V), vs = [.ref b, .ref a] ∧ BoxAt H b ∧ a ≠ b ∧ H a = some (.lst xs) ∧ 0 < xs.length ∧ xs.length < 1000 ∧ ∀ (H' : Hp) (x : V), x ∈ xs → Bx b H H' → BoxAt H' b → Q x H'
theorem ok_pick (D : Df K mg "_law_pick" s_law_pick ["box", "items"]) (T : Txt mg) (o_law_take : Own P w K mg base "_law_take" 1 ["box", "many"] spTake) : Own P w K mg base "_law_pick" 2 ["box", "items"] spPick := by
  refine D.own sc_law_pick (fun vs H Q E h => ?_) (fun fa cdv A outer s H vs Q E hr h => ?_)
  · obtain ⟨_, _, _, rfl, _⟩ := h
    rfl
  · obtain ⟨b, a, xs, rfl, hb, nab, ha, l0, l1, k⟩ := h
    refine ⟨_, (pss_one (ps_ret (pe_ix ix_list (pv 1) (pe_own o_law_take (hr.mono (by decide)) (pa_cons (pv 0) (pa_cons (pe_callB call_len_seq (by rfl) T.len PySem.boot_len (pa_cons (pv 1) pa_nil)) pa_nil))) (fun _ _ => rfl)))), ?_⟩
    walk_at "s"
    refine ⟨by omega, hb, fun H1 n hn s1 b1 => ?_⟩
    have ha1 := s1 _ _ nab ha
    have hx : xs[n]? = some xs[n] := List.getElem?_eq_getElem hn
    refine ⟨_, _, _, _, rfl, rfl, SqL.of ha1, atI_nat hx, ?_⟩
    exact k _ _ (List.getElem_mem hn) s1 b1
end
end My

/-! a heap without one thing that changes -/
namespace My
open PySem PySem.Spec PyProof.Rows L2
def off (b : Addr) (H : Hp) : Hp := fun c => if c = b then none else H c
section
variable {b c p : Addr} {H H' H0 H1 H2 : Hp} {o : HO} {v : V} {d : PyData} {xs : List V} {ds : List PyData}
theorem off_at : off b H b = none := if_pos rfl
theorem off_ne (n : c ≠ b) : off b H c = H c := if_neg n
theorem off_of (h : off b H c = some o) : c ≠ b ∧ H c = some o := by
  by_cases e : c = b
  · rw [e, off_at] at h
    cases h
  · rw [off_ne e] at h
    exact ⟨e, h⟩
theorem off_same : Same (off b H) H := fun c o e => (off_of e).2
theorem off_upd : off b (upd H b o) = off b H := funext fun c => by
  by_cases e : c = b
  · rw [e, off_at, off_at]
  · rw [off_ne e, off_ne e, upd_ne e]
theorem off_upd_ne (n : p ≠ b) : off b (upd H p o) = upd (off b H) p o := funext fun c => by
  by_cases e : c = b
  · rw [e, off_at, upd_ne (Ne.symm n), off_at]
  · rw [off_ne e]
    by_cases e2 : c = p
    · rw [e2, upd_same, upd_same]
    · rw [upd_ne e2, upd_ne e2, off_ne e]
theorem off_to (s : Same H0 H) (n : H0 b = none) : Same H0 (off b H) := fun c o e => by
  rw [off_ne (ne_of_none e n)]
  exact s _ _ e
theorem off_off (s : Same H H') : Same (off b H) (off b H') := fun c o e => by
  rw [off_ne (off_of e).1]
  exact s _ _ (off_of e).2
theorem off_bx (s : Bx b H H') : Same (off b H) (off b H') := fun c o e => by
  rw [off_ne (off_of e).1]
  exact s _ _ (off_of e).1 (off_of e).2
theorem bx_off (s : Same (off b H) H') : Bx b H H' := fun c o n e => s c o (by rw [off_ne n]; exact e)
theorem off_free (n : off b H p = none) (ne : p ≠ b) : H p = none := by
  rw [off_ne ne] at n
  exact n
theorem off_none (n : H p = none) : off b H p = none := by
  by_cases e : p = b
  · rw [e, off_at]
  · rw [off_ne e, n]
end
end My

/-! xs.extend(ys), ys a list or a tuple -/
namespace MyE
open PySem PySem.Spec PyProof.Rows L2
theorem ext_tup (l : Addr) (items : Array Value) (n : Nat) (b : Addr) (items2 : Array Value) (hs0 : ¬(!items.isEmpty && Builtin.List.listTooLong (items.size + items2.size)) = true) (hs1 : items.size ≤ sizeLine) (hs2 : items.size + items2.size ≤ sizeLine + 1) :
    Meets (Builtin.«list.extend» ⟨[.ref l, .ref b], []⟩) (fun _ R s => s.heap.get? l = some { cls := .type "list", dict := none, data := .seq items n, slots := #[] } ∧ IsTup s.heap b items2 ∧ R (.ok (.ret Value.none)) { s with heap := s.heap.update l (Obj.mapSeq fun x => x ++ items2), toks := s.toks }) :=
  .of_wp fun prog w A R s h => by
    obtain ⟨hp, g, d, tk, os⟩ := s; obtain ⟨hl, ⟨⟨oc, od, ot, osl⟩, hb, c2, n2, d2⟩, h⟩ := h
    simp only at c2 d2
    subst c2 d2
    have f1 := AutoSeq1.idx_int; have f2 := AutoSeq1.sub_tuple_tuple; have f3 := AutoSeq1.sub_list_list; have f4 := AutoSeq1.sub_tuple_list; have f5 := AutoSeq1.sub_list_tuple;
    have hz' : (items ++ items2).size ≤ sizeLine + 1 := by rw [Array.size_append]; exact hs2
    wp_walk using (wpAny_updateSeq hl rfl (hz := hs1) (_hz' := hz')), wpAny_loadPart' hl, wpAny_loadPart' hb; exact ⟨_, rfl, h⟩
end MyE
namespace My
open PySem PySem.Spec PyProof.Rows L2
def rExtendS : V → List V → Hp → VK → Prop := fun x vs H Q => ∃ l b xs zs, x = .ref l ∧ vs = [.ref b] ∧ H l = some (.lst xs) ∧ (H b = some (.lst zs) ∨ H b = some (.tup zs)) ∧ xs.length + zs.length ≤ sizeLine ∧ Q .non (upd H l (.lst (xs ++ zs)))
theorem mt_extendS {X : Cx} : MtM X "list.extend" rExtendS := by
  intro pins s σ H x vs v us Q I rx rv h
  obtain ⟨l, b, xs, zs, rfl, rfl, hH, hB, hz, q⟩ := h
  rcases hB with hB | hB
  · exact mt_extend pins s σ H _ _ v us Q I rx rv ⟨l, b, xs, zs, rfl, rfl, hH, hB, hz, q⟩
  · cases rx
    obtain ⟨u, rfl, ru⟩ := rv.one
    cases ru
    obtain ⟨z, its, n, r, hl, e⟩ := I.lstM hH
    obtain ⟨z2, its2, r2, e2⟩ := I.hok b _ hB
    have hl2 : zs.length = its2.length := r2.length
    have hsz : its.toArray.size + its2.toArray.size ≤ sizeLine := by rw [List.size_toArray, List.size_toArray]; omega
    have hlong : ¬ (!its.toArray.isEmpty && Builtin.List.listTooLong (its.toArray.size + its2.toArray.size)) = true := by
      rw [notLongL hsz, Bool.and_false]
      exact Bool.false_ne_true
    refine call_meets F.slot_list_extend ⟨_, e, rfl⟩ F.entry_list_extend (F.args_list_extend_2 _ _)
      (MyE.ext_tup l its.toArray n b its2.toArray hlong (by rw [List.size_toArray]; omega) (by omega)) ⟨e, e2, ?_⟩
    refine ⟨.non, _, I.lset (its' := its ++ its2) hH e (by simp) (r.append r2) ?_, rfl, q⟩
    rw [List.length_append]
    omega
end My

namespace My
open PySem PySem.Spec PyProof.Rows L2
local macro_rules | `(tactic| walk_at "side") => `(tactic| first | (dsimp only; omega) | exact ⟨by omega, by omega⟩ | exact Or.inl ⟨by omega, by omega⟩ | exact Or.inr ⟨by omega, by omega⟩ | decide)
local macro_rules | `(tactic| walk_at "sq") => `(tactic| first | assumption | exact SqL.of (by assumption) | exact SqT.of (by assumption) | (refine L2.Same.seq (by assumption) ?_; walk_at "sq") | (refine L2.Same.seqT (by assumption) ?_; walk_at "sq") | exact Or.inl (by walk_at "sq") | exact Or.inr (by walk_at "sq"))
local macro_rules | `(tactic| walk_at "1") => `(tactic| first
  | refine ⟨_, rfl, iteT ?_⟩
  | refine ⟨_, rfl, iteF ?_⟩
  | refine ⟨_, rfl, ?_⟩
  | refine ⟨_, _, rfl, rfl, (by walk_at "side"), ?_⟩
  | refine ⟨_, _, rfl, rfl, ?_⟩
  | refine ⟨_, _, _, _, true, rfl, .ty _, .base (.int _), kit_ty (a := "int") (by decide +kernel), ?_⟩
  | refine ⟨_, _, _, _, false, rfl, .ty _, .base (.int _), kit_ty (a := "int") (by decide +kernel), ?_⟩
  | refine ⟨_, _, rfl, (by walk_at "sq"), ?_⟩
  | refine ⟨_, _, _, _, rfl, rfl, (by walk_at "sq"), (by first | rfl | assumption), ?_⟩
  | refine Or.inl ⟨_, _, _, _, rfl, rfl, (by walk_at "sq"), (by first | rfl | assumption), ?_⟩
  | refine Or.inr (Or.inl ⟨_, _, _, _, rfl, rfl, (by walk_at "sq"), (by first | rfl | assumption), ?_⟩)
  | refine ⟨_, _, rfl, Or.inl ⟨(by walk_at "sq"), ?_⟩⟩
  | refine ⟨rfl, ?_⟩
  | refine iteT ?_
  | refine iteF ?_
  | refine ⟨_, _, _, _, _, rfl, (by assumption), (by assumption), (by assumption), (by assumption), ?_⟩
  | refine Or.inl ⟨_, rfl, ?_⟩
  | refine Or.inr ⟨_, rfl, ?_⟩
  | refine ⟨_, _, rfl, (by walk_at "side"), ?_⟩
  | refine ⟨_, _, rfl, ?_⟩)
local macro_rules | `(tactic| walk_at "fld") => `(tactic| skip)
local macro_rules | `(tactic| walk_at "s") => `(tactic| repeat walk_at "1")
local macro_rules | `(tactic| walk_at "size") => `(tactic| first | exact Nat.le_of_ble_eq_true rfl | (simp only [List.length_map, List.length_append, List.length_cons, List.length_nil]; omega))
local macro_rules | `(tactic| walk_at "new") => `(tactic| (first | refine ⟨(by walk_at "size"), fun p hp => ?_⟩ | refine fun p hp => ?_); (generalize hq : upd _ p _ = H1); (obtain ⟨s, e⟩ := new_facts hp hq); clear hq)
/-- the first of some lists of names that are none, or not free -/
def wordN : List (Str × PyData) → List Str → Option Str
  | [], _ => none
  | (w, d) :: r, t => if (isSeqD d && areFree (itemsD d) t) = true then wordN r (t ++ strsD (itemsD d)) else some w
abbrev strsI (d : PyData) : List Str := strsD (itemsD d)
/-- the first wrong argument -/
def wordM (n i o s l c : PyData) : Option Str :=
  if isNameD n = true then
    match wordN [("inlets", i), ("outlets", o), ("stations", s)] [] with
    | some w => some w
    | none =>
      if (isSeqD l && (itemsD l).all (isRightD (strsI i ++ strsI s) (strsI s ++ strsI o) (lblS c))) = true then
        if (isSeqD c && ((itemsD c).all isCallD && areFree ((lblS c).map PyData.str) (strsI i ++ (strsI o ++ strsI s)))) = true then none else some "calls"
      else some "links"
  else some "name"
def wv : Option Str → V
  | none => .non
  | some w => .str w
theorem wordN_none {l : List (Str × PyData)} : ∀ {t : List Str}, wordN l t = none → ∀ x ∈ l, isSeqD x.2 = true ∧ (itemsD x.2).all isNameD = true := by
  induction l with
  | nil => exact fun _ x hx => nomatch hx
  | cons y r ih =>
    obtain ⟨w, d⟩ := y
    intro t h x hx
    unfold wordN at h
    split at h
    · rename_i c
      obtain ⟨c1, c2⟩ := Bool.and_eq_true_iff.mp c
      rcases List.mem_cons.mp hx with rfl | hx
      · exact ⟨c1, (Bool.and_eq_true_iff.mp c2).1⟩
      · exact ih h x hx
    · cases h
theorem labS_some {d : PyData} {z : Str} (h : labS d = some z) : ∃ r, d = .tuple (.str z :: r) := by
  unfold labS at h
  split at h
  · cases h
    exact ⟨_, rfl⟩
  · cases h
theorem lbl_ok {H : Hp} : ∀ {ds : List PyData} {xs : List V}, DvAll H xs ds → ∀ x ∈ ds.filterMap labS, okS x = true
  | [], _, _, x, hx => nomatch hx
  | d :: ds, _, h, x, hx => by
    obtain ⟨y, ys, rfl, hy, ht⟩ := h.inv
    rw [List.filterMap_cons] at hx
    cases hl : labS d with
    | none =>
      rw [hl] at hx
      exact lbl_ok ht x hx
    | some z =>
      rw [hl] at hx
      rcases List.mem_cons.mp hx with rfl | hx
      · obtain ⟨r, rfl⟩ := labS_some hl
        cases hy with
        | tup e h sm =>
          obtain ⟨_, _, _, q, _⟩ := h.inv
          cases q with
          | str q => exact q
      · exact lbl_ok ht x hx
theorem strsD_len (ds : List PyData) : (strsD ds).length ≤ ds.length := List.length_filterMap_le _ _
def spWrongM : Sp := fun vs H Q _ => ∃ (v0 v1 v2 v3 v4 v5 : V) (d0 d1 d2 d3 d4 d5 : PyData), vs = [v0, v1, v2, v3, v4, v5] ∧ Dv H v0 d0 ∧ Dv H v1 d1 ∧ Dv H v2 d2 ∧ Dv H v3 d3 ∧ Dv H v4 d4 ∧ Dv H v5 d5 ∧ (itemsD d5).all labOk = true ∧
  ∀ H', Same H H' → Q (wv (wordM d0 d1 d2 d3 d4 d5)) H'
section
variable {P : Program} {w : World} {K : PySem.W.Frag} {mg : Str → Option Value} {base : Heap}
abbrev s_wrong_argument : Stmt := topS 39
theorem sc_wrong_argument : FnScope ["name", "inlets", "outlets", "stations", "links", "calls", "taken", "word", "names", "labels", "begins", "ends", "link", "call"] ["name", "inlets", "outlets", "stations", "links", "calls"] (defScope s_wrong_argument) := ⟨rfl, rfl, rfl, by decide +kernel, rfl, by decide +kernel, by decide +kernel⟩
set_option maxHeartbeats 16000000 in
theorem ok_wrong (D : Df K mg "_wrong_argument" s_wrong_argument ["name", "inlets", "outlets", "stations", "links", "calls"]) (T : Txt mg) (o_is_name : Own P w K mg base "is_name" 1 ["value"] (spD isNameD)) (o_is_sequence : Own P w K mg base "is_sequence" 1 ["value"] (spD isSeqD))
    (o_are_free : Own P w K mg base "_are_free" 2 ["names", "taken"] spFree) (o_labels : Own P w K mg base "_labels" 2 ["calls"] spLabels) (o_is_call : Own P w K mg base "_is_call" 2 ["call"] (spD isCallD))
    (o_is_right_link : Own P w K mg base "_is_right_link" 4 ["link", "begins", "ends", "labels"] spRight) : Own P w K mg base "_wrong_argument" 5 ["name", "inlets", "outlets", "stations", "links", "calls"] spWrongM := by
  refine D.own sc_wrong_argument (fun vs H Q E h => ?_) (fun f cdv A outer s H vs Q E hr h => ?_)
  · obtain ⟨_, _, _, _, _, _, _, _, _, _, _, _, rfl, _⟩ := h
    rfl
  · obtain ⟨v0, v1, v2, v3, v4, v5, d0, d1, d2, d3, d4, d5, rfl, h0, h1, h2, h3, h4, h5, hlab, k⟩ := h
    refine ⟨_, (pss_cons (ps_if (pt_not (pt_val (pe_own o_is_name (hr.mono (by decide)) (pa_cons (pv 0) pa_nil))))
    (pss_one (ps_ret pe_str))
    pss_nil)
  (pss_cons (ps_set (i := 6) sc_wrong_argument.nd rfl (Or.inl rfl) (pe_lst pa_nil))
  (pss_cons (ps_for PassesOwn.never rfl (pi_tup (pe_tup (pa_cons (pe_tup (pa_cons pe_str (pa_cons (pv 1) pa_nil))) (pa_cons (pe_tup (pa_cons pe_str (pa_cons (pv 2) pa_nil))) (pa_cons (pe_tup (pa_cons pe_str (pa_cons (pv 3) pa_nil))) pa_nil))))) (pg_tup (by rfl) (pgs_cons (pg_name (i := 7) sc_wrong_argument.nd rfl (Or.inl rfl)) (pgs_cons (pg_name (i := 8) sc_wrong_argument.nd rfl (Or.inl rfl)) pgs_nil)))
    (pss_cons (ps_if (PW.pt (pw_or (pt_not (pt_val (pe_own o_is_sequence (hr.mono (by decide)) (pa_cons (pv 8) pa_nil)))) (pw_or1 (pt_not (pt_val (pe_own o_are_free (hr.mono (by decide)) (pa_cons (pv 8) (pa_cons (pv 6) pa_nil))))))))
        (pss_one (ps_ret (pv 7)))
        pss_nil)
      (pss_one (ps_expr (pe_bm PySem.F.plainAttrs_list PySem.F.slot_list_extend PySem.F.type_list_extend mt_extendS (pv 6) (pa_cons (pv 8) pa_nil))))))
  (pss_cons (ps_set (i := 9) sc_wrong_argument.nd rfl (Or.inr rfl) (pe_own o_labels (hr.mono (by decide)) (pa_cons (pv 5) pa_nil)))
  (pss_cons (ps_set (i := 10) sc_wrong_argument.nd rfl (Or.inr rfl) (pe_lst (StX.pa_star (pv 1) (StX.pa_star (pv 3) pa_nil))))
  (pss_cons (ps_set (i := 11) sc_wrong_argument.nd rfl (Or.inr rfl) (pe_lst (StX.pa_star (pv 3) (StX.pa_star (pv 2) pa_nil))))
  (pss_cons (ps_if (PW.pt (pw_or (pt_not (pt_val (pe_own o_is_sequence (hr.mono (by decide)) (pa_cons (pv 4) pa_nil)))) (pw_or1 (pt_not (pt_val (pe_callB (cr_all rfl) (by rfl) T.all (by decide +kernel) (pa_cons (pe_lc (own := [("link", 12)]) (g := gName 12) (tt := tYes) rfl sc_wrong_argument.nd (pi_alt (pi_list (pv 4)) (pi_tup (pv 4))) (blkOk_by (own := [("link", 12)]) (N := ["name", "inlets", "outlets", "stations", "links", "calls", "taken", "word", "names", "labels", "begins", "ends", "link", "call"]) (sc := defScope s_wrong_argument) (by decide +kernel)) (fun _ _ _ _ _ => (pg_name (i := 12) sc_wrong_argument.nd rfl (Or.inl rfl))) (fun _ _ _ _ _ => pts_nil) (fun _ _ _ _ _ => (pe_own o_is_right_link (hr.mono (by decide)) (pa_cons (pv 12) (pa_cons (pv 10) (pa_cons (pv 11) (pa_cons (pv 9) pa_nil))))))) pa_nil)))))))
    (pss_one (ps_ret pe_str))
    pss_nil)
  (pss_cons (ps_if (PW.pt (pw_or (pt_not (pt_val (pe_own o_is_sequence (hr.mono (by decide)) (pa_cons (pv 5) pa_nil)))) (pw_or (pt_not (pt_val (pe_callB (cr_all rfl) (by rfl) T.all (by decide +kernel) (pa_cons (pe_lc (own := [("call", 13)]) (g := gName 13) (tt := tYes) rfl sc_wrong_argument.nd (pi_alt (pi_list (pv 5)) (pi_tup (pv 5))) (blkOk_by (own := [("call", 13)]) (N := ["name", "inlets", "outlets", "stations", "links", "calls", "taken", "word", "names", "labels", "begins", "ends", "link", "call"]) (sc := defScope s_wrong_argument) (by decide +kernel)) (fun _ _ _ _ _ => (pg_name (i := 13) sc_wrong_argument.nd rfl (Or.inl rfl))) (fun _ _ _ _ _ => pts_nil) (fun _ _ _ _ _ => (pe_own o_is_call (hr.mono (by decide)) (pa_cons (pv 13) pa_nil)))) pa_nil)))) (pw_or1 (pt_not (pt_val (pe_own o_are_free (hr.mono (by decide)) (pa_cons (pv 9) (pa_cons (pv 6) pa_nil)))))))))
    (pss_one (ps_ret pe_str))
    pss_nil)
  (pss_one (ps_ret pe_non)))))))))), ?_⟩
    refine ⟨_, rfl, v0, d0, rfl, h0, fun H1 s1 => ⟨_, rfl, ?_⟩⟩
    cases hn : isNameD d0 with
    | false =>
      refine iteT ?_
      have := k _ s1
      rw [show wordM d0 d1 d2 d3 d4 d5 = some ("name" : Str) by unfold wordM; rw [if_neg (by rw [hn]; decide)]] at this
      exact this
    | true =>
      refine iteF ?_
      have k2 : ∀ H' wd, Same H H' → wd = (match wordN [("inlets", d1), ("outlets", d2), ("stations", d3)] [] with
    | some w => some w
    | none =>
      if (isSeqD d4 && (itemsD d4).all (isRightD (strsI d1 ++ strsI d3) (strsI d3 ++ strsI d2) (lblS d5))) = true then
        if (isSeqD d5 && ((itemsD d5).all isCallD && areFree ((lblS d5).map PyData.str) (strsI d1 ++ (strsI d2 ++ strsI d3)))) = true then none else some ("calls" : Str)
      else some ("links" : Str)) → Q (wv wd) H' := fun H' wd s' e => by
        have := k _ s'
        unfold wordM at this
        rw [if_pos hn] at this
        rw [e]
        exact this
      clear k
      refine ⟨Nat.zero_le _, fun L nL => ?_⟩
      generalize hq : upd H1 L _ = H2
      obtain ⟨s2, e2⟩ := new_facts nL hq
      clear hq
      refine ⟨v1, rfl, Nat.le_of_ble_eq_true rfl, fun p1 n1 => ?_⟩
      generalize hq : upd H2 p1 _ = H3
      obtain ⟨s3, e3⟩ := new_facts n1 hq
      clear hq
      refine ⟨v2, rfl, Nat.le_of_ble_eq_true rfl, fun p2 n2 => ?_⟩
      generalize hq : upd H3 p2 _ = H4
      obtain ⟨s4, e4⟩ := new_facts n2 hq
      clear hq
      refine ⟨v3, rfl, Nat.le_of_ble_eq_true rfl, fun p3 n3 => ?_⟩
      generalize hq : upd H4 p3 _ = H5
      obtain ⟨s5, e5⟩ := new_facts n3 hq
      clear hq
      refine ⟨Nat.le_of_ble_eq_true rfl, fun pt nt => ?_⟩
      generalize hq : upd H5 pt _ = H6
      obtain ⟨s6, e6⟩ := new_facts nt hq
      clear hq
      have fL : H L = none := s1.free nL
      have s06 : Same H H6 := s1.trans (s2.trans (s3.trans (s4.trans (s5.trans s6))))
      have eL6 : H6 L = some (.lst []) := s6 _ _ (s5 _ _ (s4 _ _ (s3 _ _ e2)))
      obtain ⟨G, hG⟩ : ∃ G, G = off L H6 := ⟨_, rfl⟩
      have sG : Same H G := hG ▸ off_to s06 fL
      have sG6 : Same G H6 := hG ▸ off_same
      have nG : G L = none := hG ▸ off_at
      have ng : ∀ {p : Addr} {o : HO}, H6 p = some o → o ≠ .lst [] → G p = some o := fun {p o} e ne => by
        rw [hG, off_ne (fun z => ne (by rw [z, eL6] at e; exact (Option.some.inj e).symm))]
        exact e
      have g1 : G p1 = some (.tup [.str "inlets", v1]) := ng (s6 _ _ (s5 _ _ (s4 _ _ e3))) (by intro z; cases z)
      have g2 : G p2 = some (.tup [.str "outlets", v2]) := ng (s6 _ _ (s5 _ _ e4)) (by intro z; cases z)
      have g3 : G p3 = some (.tup [.str "stations", v3]) := ng (s6 _ _ e5) (by intro z; cases z)
      have gt : G pt = some (.tup [.ref p1, .ref p2, .ref p3]) := ng e6 (by intro z; cases z)
      have h0 := h0.same sG
      have h1 := h1.same sG
      have h2 := h2.same sG
      have h3 := h3.same sG
      have h4 := h4.same sG
      have h5 := h5.same sG
      clear s2 s3 s4 s5 s6 e2 e3 e4 e5 e6 n1 n2 n3 nt s06 s1 nL
      have k3 : ∀ H' wd, Same G H' → wd = _ → Q (wv wd) H' := fun H' wd s' e => k2 H' wd (sG.trans s') e
      clear k2 sG
      obtain ⟨all, hall⟩ : ∃ all : List (Str × PyData), all = [(("inlets" : Str), d1), (("outlets" : Str), d2), (("stations" : Str), d3)] := ⟨_, rfl⟩
      have at_ : ∀ (i : Nat) (x : V), [V.ref p1, V.ref p2, V.ref p3][i]? = some x → ∃ p w v d, x = .ref p ∧ G p = some (.tup [.str w, v]) ∧ Dv G v d ∧ all.drop i = (w, d) :: all.drop (i + 1) := fun i x hx => by
        rw [hall]
        match i, hx with
        | 0, hx => cases hx; exact ⟨p1, _, v1, d1, rfl, g1, h1, rfl⟩
        | 1, hx => cases hx; exact ⟨p2, _, v2, d2, rfl, g2, h2, rfl⟩
        | 2, hx => cases hx; exact ⟨p3, _, v3, d3, rfl, g3, h3, rfl⟩
        | _ + 3, hx => cases hx
      have dl : all.drop 3 = [] := by rw [hall]; rfl
      have dfull : all.flatMap (fun x => strsI x.2) = strsI d1 ++ (strsI d2 ++ strsI d3) := by
        rw [hall]
        simp [List.flatMap_cons]
      rw [← hall] at k3
      have hnone : wordN all [] = none → (isSeqD d1 = true ∧ (itemsD d1).all isNameD = true) ∧ (isSeqD d2 = true ∧ (itemsD d2).all isNameD = true) ∧ (isSeqD d3 = true ∧ (itemsD d3).all isNameD = true) := fun z => by
        have := wordN_none z
        rw [hall] at this
        exact ⟨this _ (.head _), this _ (.tail _ (.head _)), this _ (.tail _ (.tail _ (.head _)))⟩
      refine ⟨pt, rfl, ⟨_, SqT.of (sG6 _ _ gt)⟩, for_seq (seqIt_t (SqT.of gt)) (fun i σ' H' => ∃ (t : List Str) (y z : Option V), σ' = [some v0, some v1, some v2, some v3, some v4, some v5, some (.ref L), y, z, none, none, none, none, none] ∧ Same G H' ∧ H' L = some (.lst (t.map V.str)) ∧
        wordN all [] = wordN (all.drop i) t ∧ t ++ (all.drop i).flatMap (fun x => strsI x.2) = all.flatMap (fun x => strsI x.2) ∧ t.length ≤ 2000 * i) ⟨[], none, none, rfl, sG6, eL6, rfl, rfl, Nat.zero_le _⟩ (fun i σ' H' q => by obtain ⟨_, _, _, _, q, _⟩ := q; exact q) ?_ ?_⟩
      · rintro i x σ' H' hx ⟨t, y, z, rfl, s', eL, ew, ef, el⟩
        obtain ⟨p, wd, v, d, rfl, gp, hd, ed⟩ := at_ i x hx
        have hi : i < 3 := (List.getElem?_eq_some_iff.mp hx).1
        refine ⟨p, _, rfl, SqT.of (s' _ _ gp), rfl, _, _, rfl, _, _, rfl, rfl, ?_⟩
        have hd' := hd.same s'
        refine ⟨_, rfl, v, d, rfl, hd', fun Ha sa => ⟨_, rfl, ?_⟩⟩
        rw [ed] at ew ef
        cases hseq : isSeqD d with
        | false =>
          refine iteT ?_
          refine iteT ?_
          refine ⟨_, rfl, ?_⟩
          refine k3 Ha (some wd) (s'.trans sa) ?_
          rw [ew]
          unfold wordN
          rw [if_neg (by rw [hseq]; exact Bool.false_ne_true)]
        | true =>
          refine iteF ?_
          refine ⟨_, rfl, _, rfl, v, d, L, t, rfl, hd'.same sa, hseq, sa _ _ eL, fun Hb sb => ⟨_, rfl, ?_⟩⟩
          have sab := sa.trans sb
          have sGb := s'.trans sab
          cases hfree : areFree (itemsD d) t with
          | false =>
            refine iteT ?_
            refine ⟨_, rfl, ?_⟩
            refine k3 Hb (some wd) sGb ?_
            rw [ew]
            unfold wordN
            rw [if_neg (by rw [hseq, hfree]; exact Bool.false_ne_true)]
          | true =>
            refine iteF ?_
            have ew2 : wordN all [] = wordN (all.drop (i + 1)) (t ++ strsI d) := by
              rw [ew]
              show (if (isSeqD d && areFree (itemsD d) t) = true then wordN (all.drop (i + 1)) (t ++ strsD (itemsD d)) else some wd) = _
              rw [if_pos (by rw [hseq, hfree]; rfl)]
            obtain ⟨a, xs, rfl, hS, hX, hL, hor⟩ := (hd.same sGb).seq (K := K) hseq
            have hnm : (itemsD d).all isNameD = true := (Bool.and_eq_true_iff.mp hfree).1
            obtain ⟨ex, _⟩ := names_str hX hnm
            rw [ex] at hor
            have ls : (strsI d).length ≤ 2000 := Nat.le_trans (strsD_len _) hL
            refine ⟨_, rfl, Or.inl ⟨rfl, _, SqL.of (sab _ _ eL)⟩, _, rfl, L, a, t.map V.str, (strsI d).map V.str, rfl, rfl, sab _ _ eL, hor, ?_, t ++ strsI d, _, _, rfl, ?_, ?_, ew2, ?_, ?_⟩
            · rw [List.length_map, List.length_map]
              exact Nat.le_of_lt (Nat.lt_of_le_of_lt (by omega : t.length + (strsI d).length ≤ 8000) (by decide))
            · exact sGb.upd1 nG
            · rw [upd_same, List.map_append]
            · rw [← ef, List.flatMap_cons, List.append_assoc]
            · rw [List.length_append]
              omega
      · rintro σ' H' ⟨t, y, z, rfl, s', eL, ew, ef, el⟩
        have el : t.length ≤ 2000 * 3 := el
        rw [show [V.ref p1, V.ref p2, V.ref p3].length = 3 from rfl, dl] at ew ef
        have ewn : wordN all [] = none := ew
        obtain ⟨⟨q1, a1⟩, ⟨q2, a2⟩, ⟨q3, a3⟩⟩ := hnone ewn
        have et : t = strsI d1 ++ (strsI d2 ++ strsI d3) := by
          rw [← dfull, ← ef, List.flatMap_nil, List.append_nil]
        rw [ewn] at k3
        clear at_ hnone ew ef dl dfull hall g1 g2 g3 gt
        refine ⟨_, rfl, v5, d5, rfl, h5.same s', hlab, fun B H7 s7 nB eB => ?_⟩
        obtain ⟨A1, xs1, rfl, hS1, hX1, hL1, hor1⟩ := h1.seq (K := K) q1
        obtain ⟨A2, xs2, rfl, hS2, hX2, hL2, hor2⟩ := h2.seq (K := K) q2
        obtain ⟨A3, xs3, rfl, hS3, hX3, hL3, hor3⟩ := h3.seq (K := K) q3
        obtain ⟨ex1, _⟩ := names_str hX1 a1
        obtain ⟨ex2, _⟩ := names_str hX2 a2
        obtain ⟨ex3, _⟩ := names_str hX3 a3
        have ls1 : (strsD (itemsD d1)).length ≤ 2000 := Nat.le_trans (strsD_len _) hL1
        have ls2 : (strsD (itemsD d2)).length ≤ 2000 := Nat.le_trans (strsD_len _) hL2
        have ls3 : (strsD (itemsD d3)).length ≤ 2000 := Nat.le_trans (strsD_len _) hL3
        have big : ∀ {n : Nat}, n ≤ 8000 → n ≤ sizeLine := fun h => Nat.le_of_lt (Nat.lt_of_le_of_lt h (by decide))
        subst ex1 ex2 ex3
        have sG7 := s'.trans s7
        refine ⟨_, rfl, A1, _, rfl, (sG7.sqs hS1).symm, _, rfl, A3, _, rfl, (sG7.sqs hS3).symm, ?_⟩
        refine ⟨big (by simp only [List.length_append, List.length_map, List.length_nil]; omega), fun b1 nb1 => ?_⟩
        generalize hq : upd H7 b1 _ = H8
        obtain ⟨s8, e8⟩ := new_facts nb1 hq
        clear hq
        have sG8 := sG7.trans s8
        refine ⟨_, rfl, A3, _, rfl, (sG8.sqs hS3).symm, _, rfl, A2, _, rfl, (sG8.sqs hS2).symm, ?_⟩
        refine ⟨big (by simp only [List.length_append, List.length_map, List.length_nil]; omega), fun b2 nb2 => ?_⟩
        generalize hq : upd H8 b2 _ = H9
        obtain ⟨s9, e9⟩ := new_facts nb2 hq
        clear hq
        have sG9 := sG8.trans s9
        rw [List.append_nil, ← List.map_append] at e8 e9
        have e8' : H9 b1 = some (.lst ((strsI d1 ++ strsI d3).map V.str)) := s9 _ _ e8
        have eB' : H9 B = some (.lst ((lblS d5).map V.str)) := s9 _ _ (s8 _ _ eB)
        have eL' : H9 L = some (.lst (t.map V.str)) := s9 _ _ (s8 _ _ (s7 _ _ eL))
        have h4' := h4.same sG9
        have h5' := h5.same sG9
        rw [← et] at k3
        generalize strsI d1 ++ strsI d3 = bs at e8' k3
        generalize strsI d3 ++ strsI d2 = es at e9 k3
        have k4 : ∀ H' wd, Same H9 H' → wd = (if (isSeqD d4 && (itemsD d4).all (isRightD bs es (lblS d5))) = true then
        if (isSeqD d5 && ((itemsD d5).all isCallD && areFree ((lblS d5).map PyData.str) t)) = true then none else some ("calls" : Str)
      else some ("links" : Str)) → Q (wv wd) H' := fun H' wd s'' e => k3 H' wd (sG9.trans s'') e
        clear k3 h0 h1 h2 h3 h4 h5 hS1 hS2 hS3 hX1 hX2 hX3 sG9 sG8 sG7 s' sG6 s7 s8 s9 eB eL e8 nb1 nb2 nB
        refine ⟨_, rfl, v4, d4, rfl, h4', fun Ha sa => ⟨_, rfl, ?_⟩⟩
        cases hq4 : isSeqD d4 with
        | false =>
          refine iteT ?_
          refine iteT ?_
          exact k4 Ha (some ("links" : Str)) sa (by rw [if_neg (by rw [hq4]; exact Bool.false_ne_true)])
        | true =>
          refine iteF ?_
          obtain ⟨A4, xs4, rfl, hS4, hX4, hL4, _⟩ := (h4'.same sa).seq (K := K) hq4
          have ln4 := hX4.len
          rw [hq4, Bool.true_and] at k4
          generalize itemsD d4 = ds4 at hX4 hL4 ln4 k4
          refine seq_pi hS4 rfl fun J hJ => fun M nM => lc_seq hJ (fun i H' => Same Ha H' ∧ H' M = some (.lst (((ds4.take i).map (isRightD bs es (lblS d5))).map V.bl))) ⟨same_upd nM, upd_same⟩ (fun i H' q => q.1) ?_ ?_
          · rintro i x H' hx ⟨s1, e1⟩
            obtain ⟨e, he, hxe⟩ := hX4.get hx
            have hi : i < ds4.length := (List.getElem?_eq_some_iff.mp he).1
            refine ⟨rfl, _, rfl, _, rfl, _, rfl, _, rfl, x, e, b1, b2, B, bs, es, lblS d5, rfl, hxe.same s1, s1 _ _ (sa _ _ e8'), s1 _ _ (sa _ _ e9), s1 _ _ (sa _ _ eB'), fun H2 s2 => ⟨_, s2 _ _ e1, ?_, (s1.trans s2).upd1 nM, ?_⟩⟩
            · rw [List.length_map, List.length_map, List.length_take]
              exact small1000_2 (by omega)
            · rw [upd_same, List.take_add_one, he, List.map_append, List.map_append]
              rfl
          · rintro Hb ⟨sb, eb⟩
            rw [ln4, List.take_length] at eb
            refine ⟨M, _, rfl, SqL.of eb, _, rfl, ?_⟩
            have ea : (ds4.map (isRightD bs es (lblS d5))).all id = ds4.all (isRightD bs es (lblS d5)) := by rw [List.all_map]; rfl
            rw [ea]
            have sab := sa.trans sb
            cases hr4 : ds4.all (isRightD bs es (lblS d5)) with
            | false =>
              refine iteT ?_
              exact k4 Hb (some ("links" : Str)) sab (by rw [if_neg (by rw [hr4]; exact Bool.false_ne_true)])
            | true =>
              refine iteF ?_
              rw [if_pos hr4] at k4
              have h5b := h5'.same sab
              refine ⟨_, rfl, v5, d5, rfl, h5b, fun Hc sc => ⟨_, rfl, ?_⟩⟩
              have sac := sab.trans sc
              cases hq5 : isSeqD d5 with
              | false =>
                refine iteT ?_
                refine iteT ?_
                exact k4 Hc (some ("calls" : Str)) sac (by rw [if_neg (by rw [hq5]; exact Bool.false_ne_true)])
              | true =>
                refine iteF ?_
                obtain ⟨A5, xs5, rfl, hS5, hX5, hL5, _⟩ := (h5b.same sc).seq (K := K) hq5
                have ln5 := hX5.len
                have lok := lbl_ok hX5
                have lle : (lblS d5).length ≤ 2000 := Nat.le_trans (List.length_filterMap_le _ _) hL5
                rw [hq5, Bool.true_and] at k4
                have lok' : ∀ x ∈ lblS d5, okS x = true := lok
                clear lok
                generalize lblS d5 = lb at lok' lle k4 eB' hr4
                generalize itemsD d5 = ds5 at hX5 hL5 ln5 k4
                refine seq_pi hS5 rfl fun J hJ => fun M2 nM2 => lc_seq hJ (fun i H' => Same Hc H' ∧ H' M2 = some (.lst (((ds5.take i).map isCallD).map V.bl))) ⟨same_upd nM2, upd_same⟩ (fun i H' q => q.1) ?_ ?_
                · rintro i x H' hx ⟨s1, e1⟩
                  obtain ⟨e, he, hxe⟩ := hX5.get hx
                  have hi : i < ds5.length := (List.getElem?_eq_some_iff.mp he).1
                  refine ⟨rfl, _, rfl, x, e, rfl, hxe.same s1, fun H2 s2 => ⟨_, s2 _ _ e1, ?_, (s1.trans s2).upd1 nM2, ?_⟩⟩
                  · rw [List.length_map, List.length_map, List.length_take]
                    exact small1000_2 (by omega)
                  · rw [upd_same, List.take_add_one, he, List.map_append, List.map_append]
                    rfl
                · rintro Hd ⟨sd, ed⟩
                  rw [ln5, List.take_length] at ed
                  refine ⟨M2, _, rfl, SqL.of ed, _, rfl, ?_⟩
                  have ea : (ds5.map isCallD).all id = ds5.all isCallD := by rw [List.all_map]; rfl
                  rw [ea]
                  have sad := sac.trans sd
                  cases hr5 : ds5.all isCallD with
                  | false =>
                    refine iteT ?_
                    refine iteT ?_
                    exact k4 Hd (some ("calls" : Str)) sad (by rw [if_neg (by rw [hr5]; exact Bool.false_ne_true)])
                  | true =>
                    refine iteF ?_
                    refine ⟨_, rfl, _, rfl, .ref B, .list (lb.map PyData.str), L, t, rfl, .lst (sad _ _ eB') (dvAll_str lok') (by rw [List.length_map]; exact lle), rfl, sad _ _ eL', fun He se => ⟨_, rfl, ?_⟩⟩
                    rw [show itemsD (.list (lb.map PyData.str)) = lb.map PyData.str from rfl]
                    have sae := sad.trans se
                    rw [hr5, Bool.true_and] at k4
                    cases hfr : areFree (lb.map PyData.str) t with
                    | false =>
                      refine iteT ?_
                      exact k4 He (some ("calls" : Str)) sae (by rw [if_neg (by rw [hfr]; exact Bool.false_ne_true)])
                    | true =>
                      refine iteF ?_
                      exact k4 He none sae (by rw [if_pos hfr])
end
end My

/-! xs != [] -/
namespace My
open PySem PySem.Spec PyProof.Rows L2
def rNeN (K : PySem.W.Frag) : R2 := fun x y H Q => ∃ p q xs, x = .ref p ∧ y = .ref q ∧ SqL K H p xs ∧ SqL K H q [] ∧ Q (.bl (!xs.isEmpty)) H
theorem op_neN {X : Cx} (hu : X.A.units + 64 < cLine) : OpR X (compareOp .NotEq) (rNeN X.K) := by
  intro pins s σ H x y v u Q I rx ry h
  obtain ⟨p, q, xs, rfl, rfl, h1, h2, k⟩ := h
  cases rx
  cases ry
  obtain ⟨its, r, pl, _⟩ := I.list h1
  obtain ⟨its2, r2, pl2, _⟩ := I.list h2
  cases r2
  have ln := r.length
  refine PySem.W.cmp_ofNotEq ?_
  cases xs with
  | nil =>
    cases r
    exact SeqAt.RcNeAt.lists (A := X.A) pl.isList pl2.isList rfl (by omega) (e := fun _ => true) (fun j h => absurd h (by simp)) X.prog X.w _ _ ⟨.bl false, H, I, rfl, k⟩
  | cons a xs =>
    exact SeqAt.RcNeAt.lists_lengths (A := X.A) pl.isList pl2.isList (by
      rw [List.size_toArray, ← ln]
      simp) (by omega) X.prog X.w _ _ ⟨.bl true, H, I, rfl, k⟩
def rEqN (K : PySem.W.Frag) : R2 := fun x y H Q => ∃ p q xs, x = .ref p ∧ y = .ref q ∧ SqL K H p xs ∧ SqL K H q [] ∧ Q (.bl xs.isEmpty) H
theorem op_eqN {X : Cx} (hu : X.A.units + 64 < cLine) : OpR X (compareOp .Eq) (rEqN X.K) := by
  intro pins s σ H x y v u Q I rx ry h
  obtain ⟨p, q, xs, rfl, rfl, h1, h2, k⟩ := h
  cases rx
  cases ry
  obtain ⟨its, r, pl, _⟩ := I.list h1
  obtain ⟨its2, r2, pl2, _⟩ := I.list h2
  cases r2
  have ln := r.length
  refine PySem.W.cmp_ofEq ?_
  cases xs with
  | nil =>
    cases r
    exact SeqAt.RcAt.lists (A := X.A) pl.isList pl2.isList rfl (by omega) (e := fun _ => true) (fun j h => absurd h (by simp)) X.prog X.w _ _ ⟨.bl true, H, I, rfl, k⟩
  | cons a xs =>
    exact SeqAt.RcAt.lists_lengths (A := X.A) pl.isList pl2.isList (by
      rw [List.size_toArray, ← ln]
      simp) (by omega) X.prog X.w _ _ ⟨.bl false, H, I, rfl, k⟩
end My

namespace My
open PySem PySem.Spec PyProof.Rows L2
local macro_rules | `(tactic| walk_at "side") => `(tactic| first | (dsimp only; omega) | exact ⟨by omega, by omega⟩ | exact Or.inl ⟨by omega, by omega⟩ | exact Or.inr ⟨by omega, by omega⟩ | decide)
local macro_rules | `(tactic| walk_at "sq") => `(tactic| first | assumption | exact SqL.of (by assumption) | exact SqT.of (by assumption) | (refine L2.Same.seq (by assumption) ?_; walk_at "sq") | (refine L2.Same.seqT (by assumption) ?_; walk_at "sq") | exact Or.inl (by walk_at "sq") | exact Or.inr (by walk_at "sq"))
local macro_rules | `(tactic| walk_at "1") => `(tactic| first
  | refine ⟨_, rfl, iteT ?_⟩
  | refine ⟨_, rfl, iteF ?_⟩
  | refine ⟨_, rfl, ?_⟩
  | refine ⟨_, _, rfl, rfl, (by walk_at "side"), ?_⟩
  | refine ⟨_, _, rfl, rfl, ?_⟩
  | refine ⟨_, _, _, _, true, rfl, .ty _, .base (.int _), kit_ty (a := "int") (by decide +kernel), ?_⟩
  | refine ⟨_, _, _, _, false, rfl, .ty _, .base (.int _), kit_ty (a := "int") (by decide +kernel), ?_⟩
  | refine ⟨_, _, rfl, (by walk_at "sq"), ?_⟩
  | refine ⟨_, _, _, _, rfl, rfl, (by walk_at "sq"), (by first | rfl | assumption), ?_⟩
  | refine Or.inl ⟨_, _, _, _, rfl, rfl, (by walk_at "sq"), (by first | rfl | assumption), ?_⟩
  | refine Or.inr (Or.inl ⟨_, _, _, _, rfl, rfl, (by walk_at "sq"), (by first | rfl | assumption), ?_⟩)
  | refine ⟨_, _, rfl, Or.inl ⟨(by walk_at "sq"), ?_⟩⟩
  | refine ⟨rfl, ?_⟩
  | refine iteT ?_
  | refine iteF ?_
  | refine ⟨_, _, _, _, _, rfl, (by assumption), (by assumption), (by assumption), (by assumption), ?_⟩
  | refine Or.inl ⟨_, rfl, ?_⟩
  | refine Or.inr ⟨_, rfl, ?_⟩
  | refine ⟨_, _, rfl, (by walk_at "side"), ?_⟩
  | refine ⟨_, _, rfl, ?_⟩)
local macro_rules | `(tactic| walk_at "fld") => `(tactic| skip)
local macro_rules | `(tactic| walk_at "s") => `(tactic| repeat walk_at "1")
local macro_rules | `(tactic| walk_at "size") => `(tactic| first | exact Nat.le_of_ble_eq_true rfl | (simp only [List.length_map, List.length_append, List.length_cons, List.length_nil]; omega))
local macro_rules | `(tactic| walk_at "new") => `(tactic| (first | refine ⟨(by walk_at "size"), fun p hp => ?_⟩ | refine fun p hp => ?_); (generalize hq : upd _ p _ = H1); (obtain ⟨s, e⟩ := new_facts hp hq); clear hq)
theorem cut_from {xs : List V} (t : Nat) : cutV xs (some (t : Int)) none = xs.drop t := by
  unfold cutV
  rw [HT.sIx_nat, HT.sIx_none]
  by_cases h : t ≤ xs.length
  · rw [Nat.min_eq_left h]
    exact List.take_of_length_le (by rw [List.length_drop]; omega)
  · rw [Nat.min_eq_right (by omega), List.drop_of_length_le (Nat.le_refl _), List.drop_of_length_le (by omega), List.take_nil]
theorem cut_to {xs : List V} (t : Nat) : cutV xs none (some (t : Int)) = xs.take t := by
  unfold cutV
  rw [HT.sIx_nat, HT.sIx_none, List.drop_zero, Nat.sub_zero]
  by_cases h : t ≤ xs.length
  · rw [Nat.min_eq_left h]
  · rw [Nat.min_eq_right (by omega), List.take_length, List.take_of_length_le (by omega)]
theorem cut_mid {xs : List V} {b t : Nat} (h : t ≤ xs.length) (hb : b ≤ t) : cutV xs (some (b : Int)) (some (t : Int)) = (xs.drop b).take (t - b) := by
  unfold cutV
  rw [HT.sIx_nat, HT.sIx_nat, Nat.min_eq_left h, Nat.min_eq_left (Nat.le_trans hb h)]
/-- from (G0, H0) to (G, H): what stands still grows from G0 to G; draws are taken from the box b -/
structure Go (b : Addr) (G0 H0 G H : Hp) : Prop where
  gs : Same G0 G
  gh : Same G H
  bx : Bx b H0 H
  box : BoxAt H b
  gb : G b = none
  new : ∀ c o, H0 c = some o → G0 c = none → G c = none
section
variable {b p c : Addr} {G0 H0 G H G1 H1 G2 H2 H' : Hp} {o : HO}
theorem Go.refl (gh : Same G H) (box : BoxAt H b) (gb : G b = none) : Go b G H G H := ⟨Same.refl _, gh, Bx.of (Same.refl _), box, gb, fun _ _ _ n => n⟩
theorem Go.trans (x : Go b G0 H0 G1 H1) (y : Go b G1 H1 G2 H2) : Go b G0 H0 G2 H2 := ⟨x.gs.trans y.gs, y.gh, x.bx.trans y.bx, y.box, y.gb, fun c o e n => by
  by_cases q : c = b
  · rw [q]
    exact y.gb
  · exact y.new c o (x.bx c o q e) (x.new c o e n)⟩
theorem Go.take (x : Go b G0 H0 G H) (s : Bx b H H') (box : BoxAt H' b) : Go b G0 H0 G H' := ⟨x.gs, fun c o e => s c o (fun q => by
  rw [q, x.gb] at e
  cases e) (x.gh c o e), x.bx.trans s, box, x.gb, x.new⟩
theorem Go.same (x : Go b G0 H0 G H) (s : Same H H') : Go b G0 H0 G H' := x.take (Bx.of s) (x.box.same s)
theorem Bx.back (x : Bx b H0 H) (box : BoxAt H b) (n : H p = none) : H0 p = none := by
  cases q : H0 p with
  | none => rfl
  | some o =>
    by_cases e : p = b
    · obtain ⟨_, _, _, _, e2⟩ := box
      rw [e, e2] at n
      cases n
    · rw [x p o e q] at n
      cases n
theorem Go.free0 (x : Go b G0 H0 G H) (n : H p = none) : H0 p = none := x.bx.back x.box n
theorem Go.freeG (x : Go b G0 H0 G H) (n : H p = none) : G p = none := x.gh.free n
theorem Go.ne (x : Go b G0 H0 G H) (n : H p = none) : p ≠ b := x.box.ne n
theorem same_upd2 (s : Same G H) (n : H p = none) : Same (upd G p o) (upd H p o) := fun c x e => by
  by_cases q : c = p
  · rw [q, upd_same] at e ⊢
    exact e
  · rw [upd_ne q] at e ⊢
    exact s _ _ e
theorem Go.lay (x : Go b G0 H0 G H) (n : H p = none) : Go b G0 H0 (upd G p o) (upd H p o) :=
  ⟨x.gs.trans (same_upd (x.freeG n)), same_upd2 x.gh n, x.bx.trans (Bx.of (same_upd n)), x.box.same (same_upd n), by rw [upd_ne (x.ne n).symm]; exact x.gb, fun c o' e q => by
    rw [upd_ne (ne_of_none e (x.free0 n))]
    exact x.new c o' e q⟩
theorem Go.change (x : Go b G0 H0 G H) (n0 : H0 p = none) (nG : G p = none) (ne : p ≠ b) : Go b G0 H0 G (upd H p o) :=
  ⟨x.gs, fun c o' e => by
    rw [upd_ne (ne_of_none e nG)]
    exact x.gh c o' e, fun c o' n e => by
    rw [upd_ne (ne_of_none e n0)]
    exact x.bx c o' n e, by
    obtain ⟨i, j, k, h0, h1⟩ := x.box
    exact ⟨i, j, k, h0, by rw [upd_ne ne.symm]; exact h1⟩, x.gb, x.new⟩
theorem Go.freeze (x : Go b G0 H0 G H) (n0 : H0 p = none) (e : H p = some o) (nG : G p = none) (ne : p ≠ b) : Go b G0 H0 (upd G p o) H :=
  ⟨x.gs.trans (same_upd nG), fun c o' q => by
    by_cases w : c = p
    · rw [w, upd_same] at q
      cases q
      rw [w]
      exact e
    · rw [upd_ne w] at q
      exact x.gh c o' q, x.bx, x.box, by rw [upd_ne ne.symm]; exact x.gb, fun c o' q w => by
    rw [upd_ne (ne_of_none q n0)]
    exact x.new c o' q w⟩
theorem Go.laid (x : Go b G0 H0 G H) (n : H p = none) (hq : upd H p o = H') : ∃ G', Go b G0 H0 G' H' ∧ Same G G' ∧ Same H H' ∧ G' p = some o ∧ ∀ c, G c = none → c ≠ p → G' c = none := by
  subst hq
  exact ⟨upd G p o, x.lay n, same_upd (x.freeG n), same_upd n, upd_same, fun c h ne => by rw [upd_ne ne]; exact h⟩
end
theorem map_erase : ∀ (l : List Str) (m : Nat), (l.map V.str).eraseIdx m = (l.eraseIdx m).map V.str
  | [], m => rfl
  | x :: l, 0 => rfl
  | x :: l, m + 1 => by
    show V.str x :: (l.map V.str).eraseIdx m = V.str x :: (l.eraseIdx m).map V.str
    rw [map_erase l m]
theorem erase_perm : ∀ (l : List Str) (m : Nat) (h : m < l.length), ([l[m]] ++ l.eraseIdx m).Perm l
  | [], m, h => absurd h (by simp)
  | x :: l, 0, h => List.Perm.refl _
  | x :: l, m + 1, h => by
    have ih := erase_perm l m (by simpa using h)
    exact (List.Perm.swap _ _ _).trans (List.Perm.cons x ih)
theorem seqI {i n : Nat} (h : i < n) : seqIndex? (i : Int) n = some i := by
  have := PySem.seqIndex_of (k := (i : Int)) (n := n) (by omega) (by omega)
  rw [this]
  rfl
def namesAll : List Str := ["a", "b", "in", "out", "at", "cut", "fold", "oven", "press", "done", "link", "use", "zzzzz", "order", "c", "d", "e", "g"]
theorem namesAll_nodup : namesAll.Nodup := by decide
theorem namesAll_name : ∀ x ∈ namesAll, nameS x = true := by decide +kernel
theorem namesAll_ok : ∀ x ∈ namesAll, okS x = true := by decide +kernel
def spMixed : Sp := fun vs H Q _ => ∃ (b a : Addr) (ss : List Str), vs = [.ref b, .ref a] ∧ BoxAt H b ∧ a ≠ b ∧ H a = some (.lst (ss.map V.str)) ∧ ss.length < 1000 ∧
  ∀ (H' : Hp) (p : Addr) (ss' : List Str), ss'.Perm ss → Bx b H H' → BoxAt H' b → H p = none → H' p = some (.lst (ss'.map V.str)) → Q (.ref p) H'
def spNames : Sp := fun vs H Q _ => ∃ (b : Addr) (n : Nat), vs = [.ref b, .int n] ∧ BoxAt H b ∧ n ≤ 18 ∧
  ∀ (H' : Hp) (p : Addr) (ss' : List Str), ss'.Nodup → (∀ x ∈ ss', x ∈ namesAll) → ss'.length = n → Bx b H H' → BoxAt H' b → H p = none → H' p = some (.lst (ss'.map V.str)) → Q (.ref p) H'
section
variable {P : Program} {w : World} {K : PySem.W.Frag} {mg : Str → Option Value} {base : Heap}
abbrev s_law_mixed : Stmt := topS 52
theorem sc_law_mixed : FnScope ["box", "items", "left", "found", "turn"] ["box", "items"] (defScope s_law_mixed) := ⟨rfl, rfl, rfl, by decide +kernel, rfl, by decide +kernel, by decide +kernel⟩
set_option maxHeartbeats 8000000 in
theorem ok_mixed (D : Df K mg "_law_mixed" s_law_mixed ["box", "items"]) (T : Txt mg) (o_law_take : Own P w K mg base "_law_take" 1 ["box", "many"] spTake) : Own P w K mg base "_law_mixed" 2 ["box", "items"] spMixed := by
  refine D.own sc_law_mixed (fun vs H Q E h => ?_) (fun f cdv A outer s H vs Q E hr h => ?_)
  · obtain ⟨_, _, _, rfl, _⟩ := h
    rfl
  · obtain ⟨b, a, ss, rfl, hb, ab, ha, hn, k⟩ := h
    refine ⟨_, (pss_cons (ps_par (i := 2) (j := 3) (by rfl) sc_law_mixed.nd rfl rfl (by decide) rfl rfl (pa_cons (pe_callTy call_list_of (by rfl) T.list (by decide +kernel) (pa_cons (pv 1) pa_nil)) (pa_cons (pe_lst pa_nil) pa_nil)) (by rfl))
  (pss_cons (ps_for PassesOwn.never rfl (pi_range1 (by rfl) T.range (pa_cons (pe_callB call_len_seq (by rfl) T.len PySem.boot_len (pa_cons (pv 2) pa_nil)) pa_nil)) (pg_name (i := 4) sc_law_mixed.nd rfl (Or.inl rfl))
    (pss_one (ps_expr (pe_bm PySem.F.plainAttrs_list PySem.F.slot_list_append PySem.F.type_list_append mt_append (pv 3) (pa_cons (pe_bm PySem.F.plainAttrs_list PySem.F.slot_list_pop PySem.F.type_list_pop mt_popAt (pv 2) (pa_cons (pe_own o_law_take (hr.mono (by decide)) (pa_cons (pv 0) (pa_cons (pe_callB call_len_seq (by rfl) T.len PySem.boot_len (pa_cons (pv 2) pa_nil)) pa_nil))) pa_nil)) pa_nil)))))
  (pss_one (ps_ret (pv 3))))), ?_⟩
    refine ⟨_, rfl, a, _, rfl, Or.inl (SqL.of ha), fun l nl => ?_⟩
    generalize hq : upd H l _ = H1
    obtain ⟨s1, e1⟩ := new_facts nl hq
    clear hq
    refine ⟨Nat.zero_le _, fun p np => ?_⟩
    generalize hq : upd H1 p _ = H2
    obtain ⟨s2, e2⟩ := new_facts np hq
    clear hq
    have e1' := s2 _ _ e1
    have lp : l ≠ p := ne_of_none e1 np
    have lb : l ≠ b := hb.ne nl
    have pb : p ≠ b := (hb.same s1).ne np
    have np0 : H p = none := s1.free np
    have hl : ((ss.map V.str).length : Int) = (ss.length : Int) := by rw [List.length_map]
    refine ⟨_, _, rfl, ?_⟩
    have hnn : (ss.map V.str).length = ss.length := List.length_map ..
    refine ⟨_, rfl, l, _, rfl, Or.inl (SqL.of e1'), _, rfl, by omega, by omega, ?_⟩
    refine for_range (lo := 0) (n := (ss.map V.str).length) (fun i σ' H' => ∃ (ls fs : List Str) (y : Option V), σ' = [some (.ref b), some (.ref a), some (.ref l), some (.ref p), y] ∧ Bx b H H' ∧ BoxAt H' b ∧ H' l = some (.lst (ls.map V.str)) ∧ H' p = some (.lst (fs.map V.str)) ∧ (fs ++ ls).Perm ss ∧ ls.length + i = ss.length) ?_ ?_ ?_
    · exact ⟨ss, [], none, rfl, Bx.of (s1.trans s2), (hb.same s1).same s2, e1', e2, List.Perm.refl _, rfl⟩
    · rintro i σ' H' hi ⟨ls, fs, y, rfl, bx, box, el, ep, pm, ln⟩
      have hi' : i < ss.length := hnn ▸ hi
      have l0 : 0 < ls.length := by omega
      have lm : (ls.map V.str).length = ls.length := List.length_map ..
      refine ⟨_, rfl, Or.inl ⟨rfl, _, SqL.of ep⟩, _, rfl, Or.inl ⟨rfl, _, SqL.of el⟩, _, rfl, _, rfl, l, _, rfl, Or.inl (SqL.of el), b, ls.length, (by show [V.ref b, V.int ((ls.map V.str).length : Nat)] = [V.ref b, V.int (ls.length : Nat)]; rw [lm]), l0, by omega, box, fun H3 m hm s3 b3 => ?_⟩
      have el3 := s3 _ _ lb el
      have ep3 := s3 _ _ pb ep
      have hx : (ls.map V.str)[m]? = some (.str ls[m]) := by rw [List.getElem?_map, List.getElem?_eq_getElem hm]; rfl
      refine ⟨l, _, (m : Int), m, .str ls[m], rfl, rfl, el3, by omega, by omega, (by rw [lm]; exact seqI hm), hx, ?_⟩
      have ep4 : upd H3 l (.lst ((ls.map V.str).eraseIdx m)) p = some (.lst (fs.map V.str)) := by
        rw [upd_ne lp.symm]
        exact ep3
      have lf : fs.length + ls.length = ss.length := by rw [← pm.length_eq, List.length_append]
      refine ⟨p, _, _, rfl, rfl, ep4, (by rw [List.length_map]; exact Nat.lt_of_lt_of_le (by omega : fs.length < 1000) (by decide)), ls.eraseIdx m, fs ++ [ls[m]], _, rfl, ?_, ?_, ?_, ?_, ?_, ?_⟩
      · intro c o n e
        have cl : c ≠ l := ne_of_none e nl
        have cp : c ≠ p := ne_of_none e np0
        rw [upd_ne cp, upd_ne cl]
        exact s3 _ _ n (bx _ _ n e)
      · obtain ⟨x1, x2, x3, x0, eb⟩ := b3
        exact ⟨x1, x2, x3, x0, by rw [upd_ne pb.symm, upd_ne lb.symm]; exact eb⟩
      · rw [upd_ne lp, upd_same, map_erase]
      · rw [upd_same, List.map_append]
        rfl
      · refine List.Perm.trans ?_ pm
        rw [List.append_assoc]
        exact List.Perm.append_left _ (erase_perm _ _ hm)
      · rw [List.length_eraseIdx, if_pos hm]
        omega
    · rintro σ' H' ⟨ls, fs, y, rfl, bx, box, el, ep, pm, ln⟩
      rw [hnn] at ln
      have e0 : ls = [] := List.eq_nil_of_length_eq_zero (by omega)
      subst e0
      rw [List.append_nil] at pm
      exact ⟨_, rfl, k H' p fs pm bx box np0 ep⟩
abbrev s_law_names : Stmt := topS 53
theorem sc_law_names : FnScope ["box", "many", "some"] ["box", "many"] (defScope s_law_names) := ⟨rfl, rfl, rfl, by decide +kernel, rfl, by decide +kernel, by decide +kernel⟩
set_option maxHeartbeats 8000000 in
theorem ok_names (D : Df K mg "_law_names" s_law_names ["box", "many"]) (o_law_mixed : Own P w K mg base "_law_mixed" 2 ["box", "items"] spMixed) : Own P w K mg base "_law_names" 3 ["box", "many"] spNames := by
  refine D.own sc_law_names (fun vs H Q E h => ?_) (fun f cdv A outer s H vs Q E hr h => ?_)
  · obtain ⟨_, _, rfl, _⟩ := h
    rfl
  · obtain ⟨b, n, rfl, hb, hn, k⟩ := h
    refine ⟨_, (pss_cons (ps_set (i := 2) sc_law_names.nd rfl (Or.inl rfl) (pe_lst (pa_cons pe_str (pa_cons pe_str (pa_cons pe_str (pa_cons pe_str (pa_cons pe_str (pa_cons pe_str (pa_cons pe_str (pa_cons pe_str (pa_cons pe_str (pa_cons pe_str (pa_cons pe_str (pa_cons pe_str (pa_cons pe_str (pa_cons pe_str pa_nil))))))))))))))))
  (pss_one (ps_ret (pe_slice sl_list (pe_own o_law_mixed (hr.mono (by decide)) (pa_cons (pv 0) (pa_cons (pe_op op_cat (pv 2) (pe_lst (pa_cons pe_str (pa_cons pe_str (pa_cons pe_str (pa_cons pe_str pa_nil)))))) pa_nil))) po_none (po_some (pv 1)))))), ?_⟩
    refine ⟨Nat.le_of_ble_eq_true rfl, fun p1 n1 => ?_⟩
    generalize hq : upd H p1 _ = H1
    obtain ⟨s1, e1⟩ := new_facts n1 hq
    clear hq
    refine ⟨_, rfl, _, rfl, Nat.le_of_ble_eq_true rfl, fun p2 n2 => ?_⟩
    generalize hq : upd H1 p2 _ = H2
    obtain ⟨s2, e2⟩ := new_facts n2 hq
    clear hq
    refine ⟨p1, p2, _, _, rfl, rfl, s2 _ _ e1, e2, Nat.le_of_ble_eq_true rfl, fun p3 n3 => ?_⟩
    generalize hq : upd H2 p3 _ = H3
    obtain ⟨s3, e3⟩ := new_facts n3 hq
    clear hq
    have b3 : BoxAt H3 b := ((hb.same s1).same s2).same s3
    refine ⟨b, p3, namesAll, rfl, b3, ((hb.same s1).same s2).ne n3, e3, by decide, fun H4 p4 ss pm bx box n4 e4 => ?_⟩
    refine ⟨_, rfl, _, rfl, p4, _, rfl, SqL.of e4, fun p5 n5 => ?_⟩
    generalize hq : upd H4 p5 _ = H5
    obtain ⟨s5, e5⟩ := new_facts n5 hq
    clear hq
    have BX : Bx b H H4 := (Bx.of (s1.trans (s2.trans s3))).trans bx
    rw [cut_to, ← List.map_take] at e5
    refine k H5 p5 (ss.take n) ((List.take_sublist _ _).nodup (pm.nodup_iff.mpr namesAll_nodup)) (fun x hx => pm.mem_iff.mp (List.mem_of_mem_take hx)) ?_ (BX.trans (Bx.of s5)) (box.same s5) (BX.back box n5) e5
    rw [List.length_take, pm.length_eq]
    exact Nat.min_eq_left hn
end
end My

namespace My
open PySem PySem.Spec PyProof.Rows L2
local macro_rules | `(tactic| walk_at "side") => `(tactic| first | (dsimp only; omega) | exact ⟨by omega, by omega⟩ | exact Or.inl ⟨by omega, by omega⟩ | exact Or.inr ⟨by omega, by omega⟩ | decide)
local macro_rules | `(tactic| walk_at "sq") => `(tactic| first | assumption | exact SqL.of (by assumption) | exact SqT.of (by assumption) | (refine L2.Same.seq (by assumption) ?_; walk_at "sq") | (refine L2.Same.seqT (by assumption) ?_; walk_at "sq") | exact Or.inl (by walk_at "sq") | exact Or.inr (by walk_at "sq"))
local macro_rules | `(tactic| walk_at "1") => `(tactic| first
  | refine ⟨_, rfl, iteT ?_⟩
  | refine ⟨_, rfl, iteF ?_⟩
  | refine ⟨_, rfl, ?_⟩
  | refine ⟨_, _, rfl, rfl, (by walk_at "side"), ?_⟩
  | refine ⟨_, _, rfl, rfl, ?_⟩
  | refine ⟨_, _, _, _, true, rfl, .ty _, .base (.int _), kit_ty (a := "int") (by decide +kernel), ?_⟩
  | refine ⟨_, _, _, _, false, rfl, .ty _, .base (.int _), kit_ty (a := "int") (by decide +kernel), ?_⟩
  | refine ⟨_, _, rfl, (by walk_at "sq"), ?_⟩
  | refine ⟨_, _, _, _, rfl, rfl, (by walk_at "sq"), (by first | rfl | assumption), ?_⟩
  | refine Or.inl ⟨_, _, _, _, rfl, rfl, (by walk_at "sq"), (by first | rfl | assumption), ?_⟩
  | refine Or.inr (Or.inl ⟨_, _, _, _, rfl, rfl, (by walk_at "sq"), (by first | rfl | assumption), ?_⟩)
  | refine ⟨_, _, rfl, Or.inl ⟨(by walk_at "sq"), ?_⟩⟩
  | refine ⟨rfl, ?_⟩
  | refine iteT ?_
  | refine iteF ?_
  | refine ⟨_, _, _, _, _, rfl, (by assumption), (by assumption), (by assumption), (by assumption), ?_⟩
  | refine Or.inl ⟨_, rfl, ?_⟩
  | refine Or.inr ⟨_, rfl, ?_⟩
  | refine ⟨_, _, rfl, (by walk_at "side"), ?_⟩
  | refine ⟨_, _, rfl, ?_⟩)
local macro_rules | `(tactic| walk_at "fld") => `(tactic| skip)
local macro_rules | `(tactic| walk_at "s") => `(tactic| repeat walk_at "1")
local macro_rules | `(tactic| walk_at "size") => `(tactic| first | exact Nat.le_of_ble_eq_true rfl | (simp only [List.length_map, List.length_append, List.length_cons, List.length_nil]; omega))
local macro_rules | `(tactic| walk_at "new") => `(tactic| (first | refine ⟨(by walk_at "size"), fun p hp => ?_⟩ | refine fun p hp => ?_); (generalize hq : upd _ p _ = H1); (obtain ⟨s, e⟩ := new_facts hp hq); clear hq)
/-! ## drawn modules, as they are told -/
structure DM where
  name : Str
  inl : List Str
  out : List Str
  sta : List Str
  calls : List (Str × Str)
  links : List (Str × Str × Nat × Nat)
def strL (ss : List Str) : PyData := .list (ss.map PyData.str)
def callD (c : Str × Str) : PyData := .tuple [.str c.1, .str c.2]
def linkD (l : Str × Str × Nat × Nat) : PyData := .tuple [.str l.1, .str l.2.1, .int (l.2.2.1 : Nat), .int (l.2.2.2 : Nat)]
/-- an end within a call -/
def lab (l o : Str) : Str := l ++ "." ++ o
def findM (ms : List DM) (n : Str) : Option DM := ms.find? fun m => decide (m.name = n)
def outOf (ms : List DM) (n : Str) : List Str := match findM ms n with
  | some m => m.out
  | none => []
def inlOf (ms : List DM) (n : Str) : List Str := match findM ms n with
  | some m => m.inl
  | none => []
def begS (ms : List DM) (m : DM) : List Str := m.inl ++ m.sta ++ m.calls.flatMap fun c => (outOf ms c.2).map (lab c.1)
def goeS (ms : List DM) (m : DM) : List Str := m.sta ++ m.out ++ m.calls.flatMap fun c => (inlOf ms c.2).map (lab c.1)
def endsS (m : DM) : List Str := m.inl ++ m.sta ++ m.calls.map (·.1) ++ m.out
def headS (x : Str) : Str := (Txt.split x ".").headD x
def idxS (l : List Str) (x : Str) : Nat := l.findIdx (· == x)
/-- a link leads onward -/
def onward (m : DM) (f t : Str) : Bool := decide (idxS (endsS m) (headS f) < idxS (endsS m) (headS t))
def linkOk (ms : List DM) (m : DM) (l : Str × Str × Nat × Nat) : Prop := l.1 ∈ begS ms m ∧ l.2.1 ∈ goeS ms m ∧ l.2.2.1 ≤ 2 ∧ l.2.2.2 ≤ 9 ∧ (l.2.2.1 = 0 → onward m l.1 l.2.1 = true)
def namesOf (m : DM) : List Str := m.inl ++ (m.out ++ (m.sta ++ m.calls.map (·.1)))
def modNames : List Str := ["first", "mid", "last"]
/-- all but calls and links -/
structure DMBase (m : DM) : Prop where
  nd : (namesOf m).Nodup
  nm : ∀ x ∈ namesOf m, x ∈ namesAll
  name : m.name ∈ modNames
  inl : m.inl.length ≤ 2
  out0 : 1 ≤ m.out.length
  out : m.out.length ≤ 2
  sta0 : 1 ≤ m.sta.length
  sta : m.sta.length ≤ 2
  few : m.calls.length ≤ 2
structure DMOk (ms : List DM) (m : DM) : Prop where
  base : DMBase m
  calls : ∀ c ∈ m.calls, ∃ m', findM ms c.2 = some m'
  links : ∀ l ∈ m.links, linkOk ms m l
  lks : m.links.length ≤ 8
abbrev kS (x : Str) : Key := Sum.inr x
/-- a module's dict, without its links -/
structure ModB (H : Hp) (d : Addr) (m : DM) : Prop where
  ex : ∃ (kvs : List (Key × V)) (a1 a2 a3 a5 : Addr), H d = some (.dK kvs) ∧ valV kvs (kS "name") = some (.str m.name) ∧ valV kvs (kS "inlets") = some (.ref a1) ∧ valV kvs (kS "outlets") = some (.ref a2) ∧
    valV kvs (kS "stations") = some (.ref a3) ∧ valV kvs (kS "calls") = some (.ref a5) ∧ Dv H (.ref a1) (strL m.inl) ∧ Dv H (.ref a2) (strL m.out) ∧ Dv H (.ref a3) (strL m.sta) ∧ Dv H (.ref a5) (.list (m.calls.map callD))
/-- a module's dict -/
structure ModF (H : Hp) (v : V) (m : DM) : Prop where
  ex : ∃ (d : Addr) (kvs : List (Key × V)) (a1 a2 a3 a4 a5 : Addr), v = .ref d ∧ H d = some (.dK kvs) ∧ valV kvs (kS "name") = some (.str m.name) ∧ valV kvs (kS "inlets") = some (.ref a1) ∧ valV kvs (kS "outlets") = some (.ref a2) ∧
    valV kvs (kS "stations") = some (.ref a3) ∧ valV kvs (kS "links") = some (.ref a4) ∧ valV kvs (kS "calls") = some (.ref a5) ∧ Dv H (.ref a1) (strL m.inl) ∧ Dv H (.ref a2) (strL m.out) ∧ Dv H (.ref a3) (strL m.sta) ∧
    Dv H (.ref a4) (.list (m.links.map linkD)) ∧ Dv H (.ref a5) (.list (m.calls.map callD))
theorem ModF.same {H H' : Hp} {v : V} {m : DM} (s : Same H H') (h : ModF H v m) : ModF H' v m := by
  obtain ⟨d, kvs, a1, a2, a3, a4, a5, e, ed, h0, h1, h2, h3, h4, h5, g1, g2, g3, g4, g5⟩ := h
  exact ⟨d, kvs, a1, a2, a3, a4, a5, e, s _ _ ed, h0, h1, h2, h3, h4, h5, g1.same s, g2.same s, g3.same s, g4.same s, g5.same s⟩
theorem ModB.same {H H' : Hp} {d : Addr} {m : DM} (s : Same H H') (h : ModB H d m) : ModB H' d m := by
  obtain ⟨kvs, a1, a2, a3, a5, ed, h0, h1, h2, h3, h5, g1, g2, g3, g5⟩ := h
  exact ⟨kvs, a1, a2, a3, a5, s _ _ ed, h0, h1, h2, h3, h5, g1.same s, g2.same s, g3.same s, g5.same s⟩
theorem ModF.b {H : Hp} {v : V} {m : DM} (h : ModF H v m) : ∃ d, v = .ref d ∧ ModB H d m := by
  obtain ⟨d, kvs, a1, a2, a3, a4, a5, e, ed, h0, h1, h2, h3, h4, h5, g1, g2, g3, g4, g5⟩ := h
  exact ⟨d, e, kvs, a1, a2, a3, a5, ed, h0, h1, h2, h3, h5, g1, g2, g3, g5⟩
/-- modules by their names -/
def Known (H : Hp) (k : Addr) (ms : List DM) : Prop := ∃ kvs, H k = some (.dK kvs) ∧ ∀ n m, findM ms n = some m → ∃ v, valV kvs (kS n) = some v ∧ ModF H v m
theorem Known.same {H H' : Hp} {k : Addr} {ms : List DM} (s : Same H H') (h : Known H k ms) : Known H' k ms := by
  obtain ⟨kvs, e, h⟩ := h
  refine ⟨kvs, s _ _ e, fun n m q => ?_⟩
  obtain ⟨v, e1, e2⟩ := h n m q
  exact ⟨v, e1, e2.same s⟩
theorem dget_s {H : Hp} {a : Addr} {kvs : List (Key × V)} {x : Str} {v : V} (e : H a = some (.dK kvs)) (h : valV kvs (kS x) = some v) : DGet H a (.str x) (some v) := by
  have := DGet.k (k := Sum.inr x) e
  rw [show valV kvs (Sum.inr x) = some v from h] at this
  exact this
/-- a list of texts as it stands -/
theorem Dv.strL {H : Hp} {a : Addr} {ss : List Str} (h : Dv H (.ref a) (strL ss)) : H a = some (.lst (ss.map V.str)) ∧ (∀ x ∈ ss, okS x = true) ∧ ss.length ≤ 2000 := by
  cases h with
  | lst e h sm =>
    rw [List.length_map] at sm
    have go : ∀ {ss : List Str} {xs : List V}, DvAll H xs (ss.map PyData.str) → xs = ss.map V.str ∧ ∀ x ∈ ss, okS x = true := by
      intro ss
      induction ss with
      | nil =>
        intro xs h
        rw [h.inv0]
        exact ⟨rfl, fun x hx => nomatch hx⟩
      | cons y ss ih =>
        intro xs h
        obtain ⟨x, ys, rfl, hx, ht⟩ := h.inv
        obtain ⟨e1, e2⟩ := ih ht
        cases hx with
        | str q => exact ⟨by rw [e1]; rfl, fun z hz => by
            rcases List.mem_cons.mp hz with rfl | hz
            · exact q
            · exact e2 z hz⟩
    obtain ⟨e1, e2⟩ := go h
    rw [e1] at e
    exact ⟨e, e2, sm⟩
theorem Dv.ofStrs {H : Hp} {a : Addr} {ss : List Str} (e : H a = some (.lst (ss.map V.str))) (h : ∀ x ∈ ss, okS x = true) (l : ss.length ≤ 2000) : Dv H (.ref a) (My.strL ss) :=
  .lst e (dvAll_str h) (by rw [List.length_map]; exact l)
/-- a call as it stands -/
theorem Dv.callD {H : Hp} {v : V} {c : Str × Str} (h : Dv H v (callD c)) : ∃ t, v = .ref t ∧ H t = some (.tup [.str c.1, .str c.2]) ∧ okS c.1 = true ∧ okS c.2 = true := by
  cases h with
  | tup e h sm =>
    obtain ⟨x, ys, rfl, hx, h⟩ := h.inv
    obtain ⟨y, zs, rfl, hy, h⟩ := h.inv
    obtain rfl := h.inv0
    cases hx with
    | str q1 =>
      cases hy with
      | str q2 => exact ⟨_, rfl, e, q1, q2⟩
/-! ## texts -/
open TL in
theorem split_plain {x : Str} (h : 46 ∉ tl x) : Txt.split x "." = [x] := by
  have := split_join (y := ".") (s := 46) (S := []) rfl (by decide +kernel) (parts := [x]) (by simp) (fun p hp => by rw [List.mem_singleton.mp hp]; exact h)
  rw [join_eq] at this
  exact this
open TL in
theorem split_lab {l o : Str} (h : 46 ∉ tl l) (g : 46 ∉ tl o) : Txt.split (lab l o) "." = [l, o] := by
  have := split_join (y := ".") (s := 46) (S := []) rfl (by decide +kernel) (parts := [l, o]) (by simp) (fun p hp => by
    rcases List.mem_cons.mp hp with rfl | hp
    · exact h
    · rw [List.mem_singleton.mp hp]; exact g)
  rw [join_eq] at this
  exact this
open TL in
theorem part_lab {l o : Str} (h : 46 ∉ tl l) : Txt.partition (lab l o) "." = (l, ("." : Str), o) := partition_app (y := ".") (s := 46) (S := []) rfl h
open TL in
theorem part_plain {x : Str} (h : 46 ∉ tl x) : Txt.partition x "." = (x, Str.empty, Str.empty) := partition_none (y := ".") (s := 46) (S := []) rfl h
theorem name_point {x : Str} (h : nameS x = true) : 46 ∉ TL.tl x := fun q => by
  have h2 := (Bool.and_eq_true_iff.mp (Bool.and_eq_true_iff.mp h).2).2
  have := List.all_eq_true.mp h2 46 q
  revert this
  decide
theorem okS_name {x : Str} (h : nameS x = true) : okS x = true := by
  obtain ⟨_, h2⟩ := Bool.and_eq_true_iff.mp h
  obtain ⟨h2, h3⟩ := Bool.and_eq_true_iff.mp h2
  refine Bool.and_eq_true_iff.mpr ⟨?_, decide_eq_true (Nat.le_trans (of_decide_eq_true h2) (by decide))⟩
  rw [← Array.all_toList]
  refine List.all_eq_true.mpr fun c hc => ?_
  have := List.all_eq_true.mp h3 c hc
  unfold isLow at this
  obtain ⟨_, q⟩ := Bool.and_eq_true_iff.mp this
  have q := of_decide_eq_true q
  exact decide_eq_true (by omega)
theorem lab_len (l o : Str) : (lab l o).length = l.length + 1 + o.length := by
  have e : TL.tl (lab l o) = TL.tl l ++ TL.tl "." ++ TL.tl o := by
    unfold lab
    rw [TL.tl_append, TL.tl_append]
  rw [TL.len_tl, e, List.length_append, List.length_append, TL.len_tl l, TL.len_tl o]
  rfl
theorem okS_lab {l o : Str} (h : nameS l = true) (g : nameS o = true) : okS (lab l o) = true := by
  have hl : l.length ≤ 5 := of_decide_eq_true (Bool.and_eq_true_iff.mp (Bool.and_eq_true_iff.mp h).2).1
  have gl : o.length ≤ 5 := of_decide_eq_true (Bool.and_eq_true_iff.mp (Bool.and_eq_true_iff.mp g).2).1
  refine Bool.and_eq_true_iff.mpr ⟨?_, decide_eq_true (by rw [lab_len]; omega)⟩
  rw [← Array.all_toList]
  have e : TL.tl (lab l o) = TL.tl l ++ TL.tl "." ++ TL.tl o := by
    unfold lab
    rw [TL.tl_append, TL.tl_append]
  show (TL.tl (lab l o)).all _ = true
  rw [e, List.all_append, List.all_append]
  have h1 := (Bool.and_eq_true_iff.mp (okS_name h)).1
  have h2 := (Bool.and_eq_true_iff.mp (okS_name g)).1
  rw [← Array.all_toList] at h1 h2
  rw [show (TL.tl l).all (· < 0x110000) = true from h1, show (TL.tl o).all (· < 0x110000) = true from h2]
  decide
/-! ## where a text stands -/
theorem idxS_lt {l : List Str} {x : Str} (h : x ∈ l) : idxS l x < l.length := List.findIdx_lt_length_of_exists ⟨x, h, beq_self_eq_true x⟩
theorem idxS_at {l : List Str} {x : Str} (h : x ∈ l) : l[idxS l x]? = some x := by
  have hl := idxS_lt h
  have := List.findIdx_getElem (w := hl)
  rw [List.getElem?_eq_getElem hl]
  exact congrArg some (eq_of_beq this)
theorem idxS_no {l : List Str} {x y : Str} {i : Nat} (h : i < idxS l x) (e : l[i]? = some y) : (y == x) = false := by
  obtain ⟨hi, e'⟩ := List.getElem?_eq_some_iff.mp e
  have := List.not_of_lt_findIdx (p := (· == x)) (xs := l) h
  rw [e'] at this
  exact this
/-! ## ends of links -/
theorem findM_mem {ms : List DM} {n : Str} {m : DM} (h : findM ms n = some m) : m ∈ ms ∧ m.name = n := by
  have h : ms.find? (fun m => decide (m.name = n)) = some m := h
  have := List.find?_some h
  exact ⟨List.mem_of_find?_eq_some h, of_decide_eq_true this⟩
theorem DMBase.nameS {m : DM} (h : DMBase m) {x : Str} (hx : x ∈ namesOf m) : nameS x = true := namesAll_name x (h.nm x hx)
theorem in_inl {m : DM} {x : Str} (h : x ∈ m.inl) : x ∈ namesOf m := List.mem_append_left _ h
theorem in_out {m : DM} {x : Str} (h : x ∈ m.out) : x ∈ namesOf m := List.mem_append_right _ (List.mem_append_left _ h)
theorem in_sta {m : DM} {x : Str} (h : x ∈ m.sta) : x ∈ namesOf m := List.mem_append_right _ (List.mem_append_right _ (List.mem_append_left _ h))
theorem in_lab {m : DM} {c : Str × Str} (h : c ∈ m.calls) : c.1 ∈ namesOf m := List.mem_append_right _ (List.mem_append_right _ (List.mem_append_right _ (List.mem_map_of_mem h)))
/-- how an end looks -/
inductive EndIs (m : DM) (ns : List Str) (x : Str) : Prop where
  | plain (h : x ∈ ns) (n : nameS x = true) : EndIs m ns x
  | call (c : Str × Str) (o : Str) (hc : c ∈ m.calls) (n : nameS c.1 = true) (no : nameS o = true) (e : x = lab c.1 o) : EndIs m ns x
theorem beg_is {ms : List DM} {m : DM} {x : Str} (B : DMBase m) (M : ∀ m' ∈ ms, DMBase m') (h : x ∈ begS ms m) : EndIs m (m.inl ++ m.sta) x := by
  rcases List.mem_append.mp h with h | h
  · refine .plain h ?_
    rcases List.mem_append.mp h with h | h
    · exact B.nameS (in_inl h)
    · exact B.nameS (in_sta h)
  · obtain ⟨c, hc, h⟩ := List.mem_flatMap.mp h
    obtain ⟨o, ho, rfl⟩ := List.mem_map.mp h
    refine .call c o hc (B.nameS (in_lab hc)) ?_ rfl
    unfold outOf at ho
    split at ho
    · rename_i m' e
      exact (M m' (findM_mem e).1).nameS (in_out ho)
    · cases ho
theorem goe_is {ms : List DM} {m : DM} {x : Str} (B : DMBase m) (M : ∀ m' ∈ ms, DMBase m') (h : x ∈ goeS ms m) : EndIs m (m.sta ++ m.out) x := by
  rcases List.mem_append.mp h with h | h
  · refine .plain h ?_
    rcases List.mem_append.mp h with h | h
    · exact B.nameS (in_sta h)
    · exact B.nameS (in_out h)
  · obtain ⟨c, hc, h⟩ := List.mem_flatMap.mp h
    obtain ⟨o, ho, rfl⟩ := List.mem_map.mp h
    refine .call c o hc (B.nameS (in_lab hc)) ?_ rfl
    unfold inlOf at ho
    split at ho
    · rename_i m' e
      exact (M m' (findM_mem e).1).nameS (in_inl ho)
    · cases ho
theorem EndIs.head {m : DM} {ns : List Str} {x : Str} (h : EndIs m ns x) : (∃ r, Txt.split x "." = headS x :: r) ∧ okS x = true ∧ (headS x ∈ ns ∨ headS x ∈ m.calls.map (·.1)) := by
  cases h with
  | plain h n =>
    have e := split_plain (name_point n)
    have e2 : headS x = x := by unfold headS; rw [e]; rfl
    rw [e2]
    exact ⟨⟨[], e⟩, okS_name n, Or.inl h⟩
  | call c o hc n no e =>
    subst e
    have e := split_lab (name_point n) (name_point no)
    have e2 : headS (lab c.1 o) = c.1 := by unfold headS; rw [e]; rfl
    rw [e2]
    exact ⟨⟨[o], e⟩, okS_lab n no, Or.inr (List.mem_map_of_mem hc)⟩
theorem flat_len {α : Type} (f : α → List Str) (n : Nat) : ∀ l : List α, (∀ c ∈ l, (f c).length ≤ n) → (l.flatMap f).length ≤ n * l.length
  | [], _ => by simp
  | c :: l, h => by
    have ih := flat_len f n l fun d hd => h d (List.mem_cons_of_mem _ hd)
    have hc := h c (List.mem_cons_self ..)
    rw [List.flatMap_cons, List.length_append, List.length_cons, Nat.mul_succ]
    omega
theorem beg_len {ms : List DM} {m : DM} (B : DMBase m) (M : ∀ m' ∈ ms, DMBase m') : (begS ms m).length ≤ 8 ∧ (goeS ms m).length ≤ 8 := by
  have f1 := flat_len (fun c : Str × Str => (outOf ms c.2).map (lab c.1)) 2 m.calls fun c _ => by
    rw [List.length_map]
    unfold outOf
    split
    · rename_i m' e
      exact (M m' (findM_mem e).1).out
    · exact Nat.zero_le _
  have f2 := flat_len (fun c : Str × Str => (inlOf ms c.2).map (lab c.1)) 2 m.calls fun c _ => by
    rw [List.length_map]
    unfold inlOf
    split
    · rename_i m' e
      exact (M m' (findM_mem e).1).inl
    · exact Nat.zero_le _
  have h1 := B.inl
  have h2 := B.sta
  have h3 := B.out
  have h4 := B.few
  unfold begS goeS
  rw [List.length_append, List.length_append, List.length_append, List.length_append]
  constructor <;> omega
end My

namespace My
open PySem PySem.Spec PyProof.Rows L2
local macro_rules | `(tactic| walk_at "side") => `(tactic| first | (dsimp only; omega) | exact ⟨by omega, by omega⟩ | exact Or.inl ⟨by omega, by omega⟩ | exact Or.inr ⟨by omega, by omega⟩ | decide)
local macro_rules | `(tactic| walk_at "sq") => `(tactic| first | assumption | exact SqL.of (by assumption) | exact SqT.of (by assumption) | (refine L2.Same.seq (by assumption) ?_; walk_at "sq") | (refine L2.Same.seqT (by assumption) ?_; walk_at "sq") | exact Or.inl (by walk_at "sq") | exact Or.inr (by walk_at "sq"))
local macro_rules | `(tactic| walk_at "1") => `(tactic| first
  | refine ⟨_, rfl, iteT ?_⟩
  | refine ⟨_, rfl, iteF ?_⟩
  | refine ⟨_, rfl, ?_⟩
  | refine ⟨_, _, rfl, rfl, (by walk_at "side"), ?_⟩
  | refine ⟨_, _, rfl, rfl, ?_⟩
  | refine ⟨_, _, _, _, true, rfl, .ty _, .base (.int _), kit_ty (a := "int") (by decide +kernel), ?_⟩
  | refine ⟨_, _, _, _, false, rfl, .ty _, .base (.int _), kit_ty (a := "int") (by decide +kernel), ?_⟩
  | refine ⟨_, _, rfl, (by walk_at "sq"), ?_⟩
  | refine ⟨_, _, _, _, rfl, rfl, (by walk_at "sq"), (by first | rfl | assumption), ?_⟩
  | refine Or.inl ⟨_, _, _, _, rfl, rfl, (by walk_at "sq"), (by first | rfl | assumption), ?_⟩
  | refine Or.inr (Or.inl ⟨_, _, _, _, rfl, rfl, (by walk_at "sq"), (by first | rfl | assumption), ?_⟩)
  | refine ⟨_, _, rfl, Or.inl ⟨(by walk_at "sq"), ?_⟩⟩
  | refine ⟨rfl, ?_⟩
  | refine iteT ?_
  | refine iteF ?_
  | refine ⟨_, _, _, _, _, rfl, (by assumption), (by assumption), (by assumption), (by assumption), ?_⟩
  | refine Or.inl ⟨_, rfl, ?_⟩
  | refine Or.inr ⟨_, rfl, ?_⟩
  | refine ⟨_, _, rfl, (by walk_at "side"), ?_⟩
  | refine ⟨_, _, rfl, ?_⟩)
local macro_rules | `(tactic| walk_at "fld") => `(tactic| skip)
local macro_rules | `(tactic| walk_at "s") => `(tactic| repeat walk_at "1")
local macro_rules | `(tactic| walk_at "size") => `(tactic| first | exact Nat.le_of_ble_eq_true rfl | (simp only [List.length_map, List.length_append, List.length_cons, List.length_nil]; omega))
local macro_rules | `(tactic| walk_at "new") => `(tactic| (first | refine ⟨(by walk_at "size"), fun p hp => ?_⟩ | refine fun p hp => ?_); (generalize hq : upd _ p _ = H1); (obtain ⟨s, e⟩ := new_facts hp hq); clear hq)
section
variable {P : Program} {w : World} {K : PySem.W.Frag} {mg : Str → Option Value} {base : Heap}
abbrev s_law_begins : Stmt := topS 55
theorem sc_law_begins : FnScope ["module", "known", "found", "label", "name", "outlet"] ["module", "known"] (defScope s_law_begins) := ⟨rfl, rfl, rfl, by decide +kernel, rfl, by decide +kernel, by decide +kernel⟩
def spbegins : Sp := fun vs H Q _ => ∃ (d k : Addr) (m : DM) (ms : List DM), vs = [.ref d, .ref k] ∧ ModB H d m ∧ Known H k ms ∧ (∀ c ∈ m.calls, ∃ m', findM ms c.2 = some m') ∧ m.calls.length ≤ 4 ∧ ∀ (H' : Hp) (p : Addr), Same H H' → H p = none → H' p = some (.lst ((begS ms m).map V.str)) → Q (.ref p) H'
set_option maxHeartbeats 8000000 in
theorem ok_begins (D : Df K mg "_law_begins" s_law_begins ["module", "known"]) : Own P w K mg base "_law_begins" 1 ["module", "known"] spbegins := by
  refine D.own sc_law_begins (fun vs H Q E h => ?_) (fun f cdv A outer s H vs Q E hr h => ?_)
  · obtain ⟨_, _, _, _, rfl, _⟩ := h
    rfl
  · obtain ⟨d, k, m, ms, rfl, hB, hK, hC, hcl, kk⟩ := h
    have hu := hu_of hr
    refine ⟨_, (pss_cons (ps_set (i := 2) sc_law_begins.nd rfl (Or.inl rfl) (pe_op op_cat (pe_dget hu (pv 0) pe_str (fun _ _ => rfl)) (pe_dget hu (pv 0) pe_str (fun _ _ => rfl))))
  (pss_cons (ps_for PassesOwn.never rfl (pi_list (pe_dget hu (pv 0) pe_str (fun _ _ => rfl))) (pg_tup (by rfl) (pgs_cons (pg_name (i := 3) sc_law_begins.nd rfl (Or.inr rfl)) (pgs_cons (pg_name (i := 4) sc_law_begins.nd rfl (Or.inl rfl)) pgs_nil)))
    (pss_one (ps_set (i := 2) sc_law_begins.nd rfl (Or.inl rfl) (pe_op op_cat (pv 2) (pe_lc (own := [("outlet", 5)]) (g := gName 5) (tt := tYes) rfl sc_law_begins.nd (pi_list (pe_dget hu (pe_dget hu (pv 1) (pv 4) (fun _ _ => rfl)) pe_str (fun _ _ => rfl))) (blkOk_by (own := [("outlet", 5)]) (N := ["module", "known", "found", "label", "name", "outlet"]) (sc := defScope s_law_begins) (by decide +kernel)) (fun _ _ _ _ _ => (pg_name (i := 5) sc_law_begins.nd rfl (Or.inl rfl))) (fun _ _ _ _ _ => pts_nil) (fun _ _ _ _ _ => (pe_op op_add_str (pe_op op_add_str (pv 3) pe_str) (pv 5))))))))
  (pss_one (ps_ret (pv 2))))), ?_⟩
    obtain ⟨kvs, a1, a2, a3, a5, ed, v0, v1, v2, v3, v5, g1, g2, g3, g5⟩ := hB
    obtain ⟨e1, ok1, l1⟩ := g1.strL
    obtain ⟨e3, ok3, l3⟩ := g3.strL
    obtain ⟨kv, ek, hk⟩ := hK
    refine ⟨_, rfl, d, _, rfl, dget_s ed v1, _, rfl, d, _, rfl, dget_s ed v3, _, _, _, _, rfl, rfl, e1, e3, ?_, fun p np => ?_⟩
    · rw [List.length_map, List.length_map]
      exact Nat.le_trans (by omega : _ ≤ 4000) (by decide)
    generalize hq : upd H p _ = H1
    obtain ⟨s1, ep⟩ := new_facts np hq
    clear hq
    rw [← List.map_append] at ep
    cases g5 with
    | @lst A5 cs ds e5 hcs sm5 =>
      have ln : cs.length = m.calls.length := by rw [hcs.len, List.length_map]
      refine ⟨_, rfl, d, _, rfl, dget_s (s1 _ _ ed) v5, a5, rfl, ⟨_, SqL.of (s1 _ _ e5)⟩, for_seq (seqIt_l (SqL.of e5)) (fun i σ' H' => ∃ (q : Addr) (y z : Option V) (ts : List Str), σ' = [some (.ref d), some (.ref k), some (.ref q), y, z, none] ∧ Same H H' ∧ H q = none ∧ H' q = some (.lst (ts.map V.str)) ∧
        ts = m.inl ++ m.sta ++ (m.calls.take i).flatMap (fun c => (outOf ms c.2).map (lab c.1)) ∧ ts.length ≤ 4000 + 2000 * i) ?_ ?_ ?_ ?_⟩
      · exact ⟨p, none, none, _, rfl, s1, np, ep, by rw [List.take_zero, List.flatMap_nil, List.append_nil], by rw [List.length_append]; omega⟩
      · rintro i σ' H' ⟨_, _, _, _, _, s', _⟩
        exact s'
      · rintro i x σ' H' hx ⟨q, y, z, ts, rfl, s', nq, eq, ets, lts⟩
        obtain ⟨dd, hdd, hxd⟩ := hcs.get hx
        rw [List.getElem?_map] at hdd
        obtain ⟨c, hc, rfl⟩ := Option.map_eq_some_iff.mp hdd
        have hi : i < m.calls.length := (List.getElem?_eq_some_iff.mp hc).1
        obtain ⟨t, rfl, et, okl, okn⟩ := hxd.callD
        refine ⟨t, _, rfl, SqT.of (s' _ _ et), rfl, _, _, rfl, _, _, rfl, rfl, ?_⟩
        obtain ⟨m', hm'⟩ := hC c (List.mem_of_getElem? hc)
        obtain ⟨v', hv', hM'⟩ := hk _ _ hm'
        obtain ⟨d', kvs', b1, b2, b3, b4, b5, rfl, ed', w0, w1, w2, w3, w4, w5, f1, f2, f3, f4, f5⟩ := hM'
        obtain ⟨e2', ok2', l2'⟩ := f2.strL
        refine ⟨_, rfl, _, rfl, _, rfl, k, _, rfl, dget_s (s' _ _ ek) hv', d', _, rfl, dget_s (s' _ _ ed') w2, b2, rfl, ⟨_, SqL.of (s' _ _ e2')⟩, fun L nL => ?_⟩
        refine lc_seq (seqIt_l (SqL.of (s' _ _ e2'))) (LcP H' L fun j => (m'.out[j]?).map fun o => V.str (lab c.1 o)) (LcP.zero nL) (fun i H' q => q.same) ?_ ?_
        · intro j x H2 hx pq
          rw [List.getElem?_map] at hx
          obtain ⟨o, ho, rfl⟩ := Option.map_eq_some_iff.mp hx
          have hj : j < m'.out.length := (List.getElem?_eq_some_iff.mp ho).1
          have oko := ok2' o (List.mem_of_getElem? ho)
          have len1 : c.1.length ≤ 1000 := of_decide_eq_true (Bool.and_eq_true_iff.mp okl).2
          have len2 : o.length ≤ 1000 := of_decide_eq_true (Bool.and_eq_true_iff.mp oko).2
          have big : ∀ {n : Nat}, n ≤ 4000 → n ≤ sizeLine := fun h => Nat.le_trans h (by decide)
          have lp : (c.1 ++ ("." : Str)).length = c.1.length + 1 := by rw [TL.len_tl, TL.tl_append, List.length_append, TL.len_tl c.1]; rfl
          refine ⟨rfl, _, rfl, _, _, rfl, rfl, big (by show c.1.length + 1 ≤ 4000; omega), _, rfl, _, _, rfl, rfl, big (by rw [lp]; omega), ?_⟩
          exact pq.yes (Same.refl _) nL (small1000_2 (by omega)) (by rw [ho]; rfl)
        · intro H2 pq
          have e := pq.lst
          rw [List.length_map] at e
          have ef : (List.range m'.out.length).filterMap (fun j => (m'.out[j]?).map fun o => V.str (lab c.1 o)) = (m'.out.map (lab c.1)).map V.str := by
            rw [fm_get, List.map_map]
            rfl
          rw [ef] at e
          have s2 := pq.same
          refine ⟨q, L, _, _, rfl, rfl, s2 _ _ eq, e, ?_, fun r nr => ⟨r, _, _, ts ++ m'.out.map (lab c.1), rfl, ?_, ?_, ?_, ?_, ?_⟩⟩
          · rw [List.length_map, List.length_map, List.length_map]
            exact Nat.le_trans (by omega : _ ≤ 20000) (by decide)
          · exact (s'.trans s2).trans (same_upd nr)
          · exact (s'.trans s2).free nr
          · rw [upd_same, List.map_append]
          · rw [ets, List.append_assoc, List.take_add_one, hc, List.flatMap_append]
            show _ = _ ++ (_ ++ ([c].flatMap _))
            rw [List.flatMap_cons, List.flatMap_nil, List.append_nil]
            congr 2
            unfold outOf
            rw [hm']
          · rw [List.length_append, List.length_map]
            omega
      · rintro σ' H' ⟨q, y, z, ts, rfl, s', nq, eq, ets, lts⟩
        rw [ln, List.take_length] at ets
        refine ⟨_, rfl, kk H' q s' nq ?_⟩
        rw [eq, ets]
        rfl
abbrev s_law_goes : Stmt := topS 56
theorem sc_law_goes : FnScope ["module", "known", "found", "label", "name", "inlet"] ["module", "known"] (defScope s_law_goes) := ⟨rfl, rfl, rfl, by decide +kernel, rfl, by decide +kernel, by decide +kernel⟩
def spgoes : Sp := fun vs H Q _ => ∃ (d k : Addr) (m : DM) (ms : List DM), vs = [.ref d, .ref k] ∧ ModB H d m ∧ Known H k ms ∧ (∀ c ∈ m.calls, ∃ m', findM ms c.2 = some m') ∧ m.calls.length ≤ 4 ∧ ∀ (H' : Hp) (p : Addr), Same H H' → H p = none → H' p = some (.lst ((goeS ms m).map V.str)) → Q (.ref p) H'
set_option maxHeartbeats 8000000 in
theorem ok_goes (D : Df K mg "_law_goes" s_law_goes ["module", "known"]) : Own P w K mg base "_law_goes" 1 ["module", "known"] spgoes := by
  refine D.own sc_law_goes (fun vs H Q E h => ?_) (fun f cdv A outer s H vs Q E hr h => ?_)
  · obtain ⟨_, _, _, _, rfl, _⟩ := h
    rfl
  · obtain ⟨d, k, m, ms, rfl, hB, hK, hC, hcl, kk⟩ := h
    have hu := hu_of hr
    refine ⟨_, (pss_cons (ps_set (i := 2) sc_law_goes.nd rfl (Or.inl rfl) (pe_op op_cat (pe_dget hu (pv 0) pe_str (fun _ _ => rfl)) (pe_dget hu (pv 0) pe_str (fun _ _ => rfl))))
  (pss_cons (ps_for PassesOwn.never rfl (pi_list (pe_dget hu (pv 0) pe_str (fun _ _ => rfl))) (pg_tup (by rfl) (pgs_cons (pg_name (i := 3) sc_law_goes.nd rfl (Or.inr rfl)) (pgs_cons (pg_name (i := 4) sc_law_goes.nd rfl (Or.inl rfl)) pgs_nil)))
    (pss_one (ps_set (i := 2) sc_law_goes.nd rfl (Or.inl rfl) (pe_op op_cat (pv 2) (pe_lc (own := [("inlet", 5)]) (g := gName 5) (tt := tYes) rfl sc_law_goes.nd (pi_list (pe_dget hu (pe_dget hu (pv 1) (pv 4) (fun _ _ => rfl)) pe_str (fun _ _ => rfl))) (blkOk_by (own := [("inlet", 5)]) (N := ["module", "known", "found", "label", "name", "inlet"]) (sc := defScope s_law_goes) (by decide +kernel)) (fun _ _ _ _ _ => (pg_name (i := 5) sc_law_goes.nd rfl (Or.inl rfl))) (fun _ _ _ _ _ => pts_nil) (fun _ _ _ _ _ => (pe_op op_add_str (pe_op op_add_str (pv 3) pe_str) (pv 5))))))))
  (pss_one (ps_ret (pv 2))))), ?_⟩
    obtain ⟨kvs, a1, a2, a3, a5, ed, v0, v1, v2, v3, v5, g1, g2, g3, g5⟩ := hB
    obtain ⟨e1, ok1, l1⟩ := g3.strL
    obtain ⟨e3, ok3, l3⟩ := g2.strL
    obtain ⟨kv, ek, hk⟩ := hK
    refine ⟨_, rfl, d, _, rfl, dget_s ed v3, _, rfl, d, _, rfl, dget_s ed v2, _, _, _, _, rfl, rfl, e1, e3, ?_, fun p np => ?_⟩
    · rw [List.length_map, List.length_map]
      exact Nat.le_trans (by omega : _ ≤ 4000) (by decide)
    generalize hq : upd H p _ = H1
    obtain ⟨s1, ep⟩ := new_facts np hq
    clear hq
    rw [← List.map_append] at ep
    cases g5 with
    | @lst A5 cs ds e5 hcs sm5 =>
      have ln : cs.length = m.calls.length := by rw [hcs.len, List.length_map]
      refine ⟨_, rfl, d, _, rfl, dget_s (s1 _ _ ed) v5, a5, rfl, ⟨_, SqL.of (s1 _ _ e5)⟩, for_seq (seqIt_l (SqL.of e5)) (fun i σ' H' => ∃ (q : Addr) (y z : Option V) (ts : List Str), σ' = [some (.ref d), some (.ref k), some (.ref q), y, z, none] ∧ Same H H' ∧ H q = none ∧ H' q = some (.lst (ts.map V.str)) ∧
        ts = m.sta ++ m.out ++ (m.calls.take i).flatMap (fun c => (inlOf ms c.2).map (lab c.1)) ∧ ts.length ≤ 4000 + 2000 * i) ?_ ?_ ?_ ?_⟩
      · exact ⟨p, none, none, _, rfl, s1, np, ep, by rw [List.take_zero, List.flatMap_nil, List.append_nil], by rw [List.length_append]; omega⟩
      · rintro i σ' H' ⟨_, _, _, _, _, s', _⟩
        exact s'
      · rintro i x σ' H' hx ⟨q, y, z, ts, rfl, s', nq, eq, ets, lts⟩
        obtain ⟨dd, hdd, hxd⟩ := hcs.get hx
        rw [List.getElem?_map] at hdd
        obtain ⟨c, hc, rfl⟩ := Option.map_eq_some_iff.mp hdd
        have hi : i < m.calls.length := (List.getElem?_eq_some_iff.mp hc).1
        obtain ⟨t, rfl, et, okl, okn⟩ := hxd.callD
        refine ⟨t, _, rfl, SqT.of (s' _ _ et), rfl, _, _, rfl, _, _, rfl, rfl, ?_⟩
        obtain ⟨m', hm'⟩ := hC c (List.mem_of_getElem? hc)
        obtain ⟨v', hv', hM'⟩ := hk _ _ hm'
        obtain ⟨d', kvs', b1, b2, b3, b4, b5, rfl, ed', w0, w1, w2, w3, w4, w5, f1, f2, f3, f4, f5⟩ := hM'
        obtain ⟨e2', ok2', l2'⟩ := f1.strL
        refine ⟨_, rfl, _, rfl, _, rfl, k, _, rfl, dget_s (s' _ _ ek) hv', d', _, rfl, dget_s (s' _ _ ed') w1, b1, rfl, ⟨_, SqL.of (s' _ _ e2')⟩, fun L nL => ?_⟩
        refine lc_seq (seqIt_l (SqL.of (s' _ _ e2'))) (LcP H' L fun j => (m'.inl[j]?).map fun o => V.str (lab c.1 o)) (LcP.zero nL) (fun i H' q => q.same) ?_ ?_
        · intro j x H2 hx pq
          rw [List.getElem?_map] at hx
          obtain ⟨o, ho, rfl⟩ := Option.map_eq_some_iff.mp hx
          have hj : j < m'.inl.length := (List.getElem?_eq_some_iff.mp ho).1
          have oko := ok2' o (List.mem_of_getElem? ho)
          have len1 : c.1.length ≤ 1000 := of_decide_eq_true (Bool.and_eq_true_iff.mp okl).2
          have len2 : o.length ≤ 1000 := of_decide_eq_true (Bool.and_eq_true_iff.mp oko).2
          have big : ∀ {n : Nat}, n ≤ 4000 → n ≤ sizeLine := fun h => Nat.le_trans h (by decide)
          have lp : (c.1 ++ ("." : Str)).length = c.1.length + 1 := by rw [TL.len_tl, TL.tl_append, List.length_append, TL.len_tl c.1]; rfl
          refine ⟨rfl, _, rfl, _, _, rfl, rfl, big (by show c.1.length + 1 ≤ 4000; omega), _, rfl, _, _, rfl, rfl, big (by rw [lp]; omega), ?_⟩
          exact pq.yes (Same.refl _) nL (small1000_2 (by omega)) (by rw [ho]; rfl)
        · intro H2 pq
          have e := pq.lst
          rw [List.length_map] at e
          have ef : (List.range m'.inl.length).filterMap (fun j => (m'.inl[j]?).map fun o => V.str (lab c.1 o)) = (m'.inl.map (lab c.1)).map V.str := by
            rw [fm_get, List.map_map]
            rfl
          rw [ef] at e
          have s2 := pq.same
          refine ⟨q, L, _, _, rfl, rfl, s2 _ _ eq, e, ?_, fun r nr => ⟨r, _, _, ts ++ m'.inl.map (lab c.1), rfl, ?_, ?_, ?_, ?_, ?_⟩⟩
          · rw [List.length_map, List.length_map, List.length_map]
            exact Nat.le_trans (by omega : _ ≤ 20000) (by decide)
          · exact (s'.trans s2).trans (same_upd nr)
          · exact (s'.trans s2).free nr
          · rw [upd_same, List.map_append]
          · rw [ets, List.append_assoc, List.take_add_one, hc, List.flatMap_append]
            show _ = _ ++ (_ ++ ([c].flatMap _))
            rw [List.flatMap_cons, List.flatMap_nil, List.append_nil]
            congr 2
            unfold inlOf
            rw [hm']
          · rw [List.length_append, List.length_map]
            omega
      · rintro σ' H' ⟨q, y, z, ts, rfl, s', nq, eq, ets, lts⟩
        rw [ln, List.take_length] at ets
        refine ⟨_, rfl, kk H' q s' nq ?_⟩
        rw [eq, ets]
        rfl
end
end My

namespace My
open PySem PySem.Spec PyProof.Rows L2
local macro_rules | `(tactic| walk_at "side") => `(tactic| first | (dsimp only; omega) | exact ⟨by omega, by omega⟩ | exact Or.inl ⟨by omega, by omega⟩ | exact Or.inr ⟨by omega, by omega⟩ | decide)
local macro_rules | `(tactic| walk_at "sq") => `(tactic| first | assumption | exact SqL.of (by assumption) | exact SqT.of (by assumption) | (refine L2.Same.seq (by assumption) ?_; walk_at "sq") | (refine L2.Same.seqT (by assumption) ?_; walk_at "sq") | exact Or.inl (by walk_at "sq") | exact Or.inr (by walk_at "sq"))
local macro_rules | `(tactic| walk_at "1") => `(tactic| first
  | refine ⟨_, rfl, iteT ?_⟩
  | refine ⟨_, rfl, iteF ?_⟩
  | refine ⟨_, rfl, ?_⟩
  | refine ⟨_, _, rfl, rfl, (by walk_at "side"), ?_⟩
  | refine ⟨_, _, rfl, rfl, ?_⟩
  | refine ⟨_, _, _, _, true, rfl, .ty _, .base (.int _), kit_ty (a := "int") (by decide +kernel), ?_⟩
  | refine ⟨_, _, _, _, false, rfl, .ty _, .base (.int _), kit_ty (a := "int") (by decide +kernel), ?_⟩
  | refine ⟨_, _, rfl, (by walk_at "sq"), ?_⟩
  | refine ⟨_, _, _, _, rfl, rfl, (by walk_at "sq"), (by first | rfl | assumption), ?_⟩
  | refine Or.inl ⟨_, _, _, _, rfl, rfl, (by walk_at "sq"), (by first | rfl | assumption), ?_⟩
  | refine Or.inr (Or.inl ⟨_, _, _, _, rfl, rfl, (by walk_at "sq"), (by first | rfl | assumption), ?_⟩)
  | refine ⟨_, _, rfl, Or.inl ⟨(by walk_at "sq"), ?_⟩⟩
  | refine ⟨rfl, ?_⟩
  | refine iteT ?_
  | refine iteF ?_
  | refine ⟨_, _, _, _, _, rfl, (by assumption), (by assumption), (by assumption), (by assumption), ?_⟩
  | refine Or.inl ⟨_, rfl, ?_⟩
  | refine Or.inr ⟨_, rfl, ?_⟩
  | refine ⟨_, _, rfl, (by walk_at "side"), ?_⟩
  | refine ⟨_, _, rfl, ?_⟩)
local macro_rules | `(tactic| walk_at "fld") => `(tactic| skip)
local macro_rules | `(tactic| walk_at "s") => `(tactic| repeat walk_at "1")
local macro_rules | `(tactic| walk_at "size") => `(tactic| first | exact Nat.le_of_ble_eq_true rfl | (simp only [List.length_map, List.length_append, List.length_cons, List.length_nil]; omega))
local macro_rules | `(tactic| walk_at "new") => `(tactic| (first | refine ⟨(by walk_at "size"), fun p hp => ?_⟩ | refine fun p hp => ?_); (generalize hq : upd _ p _ = H1); (obtain ⟨s, e⟩ := new_facts hp hq); clear hq)
theorem okS_all {xs : List Str} (h : ∀ x ∈ xs, okS x = true) : True := trivial
def spLinks : Sp := fun vs H Q _ => ∃ (b d k : Addr) (G : Hp) (m : DM) (ms : List DM), vs = [.ref b, .ref d, .ref k] ∧ Same G H ∧ BoxAt H b ∧ G b = none ∧ ModB H d m ∧ Known H k ms ∧ (∀ c ∈ m.calls, ∃ m', findM ms c.2 = some m') ∧ DMBase m ∧ (∀ m' ∈ ms, DMBase m') ∧
  ∀ (G' H' : Hp) (p : Addr) (ls : List (Str × Str × Nat × Nat)), Go b G H G' H' → ls.length ≤ 8 → (∀ l ∈ ls, linkOk ms m l) → Dv G' (.ref p) (.list (ls.map linkD)) → Q (.ref p) H'
section
variable {P : Program} {w : World} {K : PySem.W.Frag} {mg : Str → Option Value} {base : Heap}
abbrev s_law_links : Stmt := topS 57
theorem sc_law_links : FnScope ["box", "module", "known", "ends", "begins", "goes", "found", "turn", "first", "then", "is_onward", "marks", "label", "name"] ["box", "module", "known"] (defScope s_law_links) := ⟨rfl, rfl, rfl, by decide +kernel, rfl, by decide +kernel, by decide +kernel⟩
set_option maxHeartbeats 16000000 in
theorem ok_links (D : Df K mg "_law_links" s_law_links ["box", "module", "known"]) (T : Txt mg) (o_law_take : Own P w K mg base "_law_take" 1 ["box", "many"] spTake) (o_law_pick : Own P w K mg base "_law_pick" 2 ["box", "items"] spPick)
    (o_law_begins : Own P w K mg base "_law_begins" 1 ["module", "known"] spbegins) (o_law_goes : Own P w K mg base "_law_goes" 1 ["module", "known"] spgoes) : Own P w K mg base "_law_links" 3 ["box", "module", "known"] spLinks := by
  refine D.own sc_law_links (fun vs H Q E h => ?_) (fun f cdv A outer s H vs Q E hr h => ?_)
  · obtain ⟨_, _, _, _, _, _, rfl, _⟩ := h
    rfl
  · obtain ⟨b, d, k, G, m, ms, rfl, sG, hb, Gb, hB, hK, hC, B, M, kk⟩ := h
    have hu := hu_of hr
    refine ⟨_, (pss_cons (ps_set (i := 3) sc_law_links.nd rfl (Or.inl rfl) (pe_op op_cat (pe_op op_cat (pe_op op_cat (pe_dget hu (pv 1) pe_str (fun _ _ => rfl)) (pe_dget hu (pv 1) pe_str (fun _ _ => rfl))) (pe_lc (own := [("label", 12), ("name", 13)]) (g := gTup K 2 (gCons (gName 12) (gCons (gName 13) gNil))) (tt := tYes) rfl sc_law_links.nd (pi_list (pe_dget hu (pv 1) pe_str (fun _ _ => rfl))) (blkOk_by (own := [("label", 12), ("name", 13)]) (N := ["box", "module", "known", "ends", "begins", "goes", "found", "turn", "first", "then", "is_onward", "marks", "label", "name"]) (sc := defScope s_law_links) (by decide +kernel)) (fun _ _ _ _ _ => (pg_tup (by rfl) (pgs_cons (pg_name (i := 12) sc_law_links.nd rfl (Or.inl rfl)) (pgs_cons (pg_name (i := 13) sc_law_links.nd rfl (Or.inl rfl)) pgs_nil)))) (fun _ _ _ _ _ => pts_nil) (fun _ _ _ _ _ => (pv 12)))) (pe_dget hu (pv 1) pe_str (fun _ _ => rfl))))
  (pss_cons (ps_par3 (i := 4) (j := 5) (l := 6) (by rfl) sc_law_links.nd rfl rfl rfl (by decide) (by decide) (by decide) rfl rfl rfl (pa_cons (pe_own o_law_begins (hr.mono (by decide)) (pa_cons (pv 1) (pa_cons (pv 2) pa_nil))) (pa_cons (pe_own o_law_goes (hr.mono (by decide)) (pa_cons (pv 1) (pa_cons (pv 2) pa_nil))) (pa_cons (pe_lst pa_nil) pa_nil))) (by rfl))
  (pss_cons (ps_if (PW.pt (pw_or (pt_cmpR (op_eqN hr.units) (pv 4) (pe_lst pa_nil) (nomark _)) (pw_or1 (pt_cmpR (op_eqN hr.units) (pv 5) (pe_lst pa_nil) (nomark _)))))
    (pss_one (ps_ret (pv 6)))
    pss_nil)
  (pss_cons (ps_for PassesOwn.never rfl (pi_range1 (by rfl) T.range (pa_cons (pe_op op_add pe_int (pe_own o_law_take (hr.mono (by decide)) (pa_cons (pv 0) (pa_cons pe_int pa_nil)))) pa_nil)) (pg_name (i := 7) sc_law_links.nd rfl (Or.inl rfl))
    (pss_cons (ps_par (i := 8) (j := 9) (by rfl) sc_law_links.nd rfl rfl (by decide) rfl rfl (pa_cons (pe_own o_law_pick (hr.mono (by decide)) (pa_cons (pv 0) (pa_cons (pv 4) pa_nil))) (pa_cons (pe_own o_law_pick (hr.mono (by decide)) (pa_cons (pv 0) (pa_cons (pv 5) pa_nil))) pa_nil)) (by rfl))
      (pss_cons (ps_set (i := 10) sc_law_links.nd rfl (Or.inl rfl) (pe_cmpR op_lt (pe_bm PySem.F.plainAttrs_list PySem.F.slot_list_index PySem.F.type_list_index mt_index (pv 3) (pa_cons (pe_ix ix_list (pe_m1 PySem.F.slot_str_split PySem.F.type_str_split mt_split (pv 8) pe_str) pe_int (fun _ _ => rfl)) pa_nil)) (pe_bm PySem.F.plainAttrs_list PySem.F.slot_list_index PySem.F.type_list_index mt_index (pv 3) (pa_cons (pe_ix ix_list (pe_m1 PySem.F.slot_str_split PySem.F.type_str_split mt_split (pv 9) pe_str) pe_int (fun _ _ => rfl)) pa_nil)) (nomark _)))
      (pss_cons (ps_set (i := 11) sc_law_links.nd rfl (Or.inl rfl) (pe_ifExp (pt_val (pv 10)) (pe_own o_law_take (hr.mono (by decide)) (pa_cons (pv 0) (pa_cons pe_int pa_nil))) (pe_op op_add pe_int (pe_own o_law_take (hr.mono (by decide)) (pa_cons (pv 0) (pa_cons pe_int pa_nil))))))
      (pss_one (ps_expr (pe_bm PySem.F.plainAttrs_list PySem.F.slot_list_append PySem.F.type_list_append mt_append (pv 6) (pa_cons (pe_tup (pa_cons (pv 8) (pa_cons (pv 9) (pa_cons (pe_ifExp (PW.pt (pw_and (pt_val (pv 10)) (pw_and1 (pt_cmpR op_eq (pe_own o_law_take (hr.mono (by decide)) (pa_cons (pv 0) (pa_cons pe_int pa_nil))) pe_int (nomark _))))) pe_int (pv 11)) (pa_cons (pe_own o_law_take (hr.mono (by decide)) (pa_cons (pv 0) (pa_cons pe_int pa_nil))) pa_nil))))) pa_nil))))))))
  (pss_one (ps_ret (pv 6))))))), ?_⟩
    obtain ⟨kvs, a1, a2, a3, a5, ed, v0, v1, v2, v3, v5, g1, g2, g3, g5⟩ := id hB
    obtain ⟨e1, ok1, l1⟩ := g1.strL
    obtain ⟨e2, ok2, l2⟩ := g2.strL
    obtain ⟨e3, ok3, l3⟩ := g3.strL
    have big : ∀ {n : Nat}, n ≤ 40000 → n ≤ sizeLine := fun h => Nat.le_trans h (by decide)
    obtain ⟨lb, lg⟩ := beg_len B M
    have bi := fun x hx => beg_is (x := x) B M hx
    have gi := fun x hx => goe_is (x := x) B M hx
    -- ends
    refine ⟨_, rfl, d, _, rfl, dget_s ed v1, _, rfl, d, _, rfl, dget_s ed v3, _, _, _, _, rfl, rfl, e1, e3, big (by rw [List.length_map, List.length_map]; omega), fun p1 n1 => ?_⟩
    generalize hq : upd H p1 _ = H1
    obtain ⟨s1, ep1⟩ := new_facts n1 hq
    clear hq
    rw [← List.map_append] at ep1
    cases g5 with
    | @lst A5 cs ds e5 hcs sm5 =>
      have ln : cs.length = m.calls.length := by rw [hcs.len, List.length_map]
      refine ⟨_, rfl, d, _, rfl, dget_s (s1 _ _ ed) v5, a5, rfl, ⟨_, SqL.of (s1 _ _ e5)⟩, fun L nL => ?_⟩
      refine lc_seq (seqIt_l (SqL.of (s1 _ _ e5))) (LcP H1 L fun j => (m.calls[j]?).map fun c => V.str c.1) (LcP.zero nL) (fun i H' q => q.same) ?_ ?_
      · intro j x H2 hx pq
        obtain ⟨dd, hdd, hxd⟩ := hcs.get hx
        rw [List.getElem?_map] at hdd
        obtain ⟨c, hc, rfl⟩ := Option.map_eq_some_iff.mp hdd
        have hj : j < m.calls.length := (List.getElem?_eq_some_iff.mp hc).1
        obtain ⟨t, rfl, et, okl, okn⟩ := hxd.callD
        have hf := B.few
        refine ⟨t, _, rfl, SqT.of (pq.same _ _ (s1 _ _ et)), rfl, _, _, rfl, _, _, rfl, rfl, rfl, _, rfl, pq.yes (Same.refl _) nL (small1000_2 (by omega)) (by rw [hc]; rfl)⟩
      · intro H2 pq
        have eL := pq.lst
        rw [ln] at eL
        rw [show (List.range m.calls.length).filterMap (fun j => (m.calls[j]?).map fun c => V.str c.1) = (m.calls.map (·.1)).map V.str by rw [fm_get, List.map_map]; rfl] at eL
        have s2 := pq.same
        clear pq
        have s12 := s1.trans s2
        have hf := B.few
        refine ⟨p1, L, _, _, rfl, rfl, s2 _ _ ep1, eL, big (by rw [List.length_map, List.length_append, List.length_map, List.length_map]; omega), fun p3 n3 => ?_⟩
        generalize hq : upd H2 p3 _ = H3
        obtain ⟨s3, ep3⟩ := new_facts n3 hq
        clear hq
        rw [← List.map_append] at ep3
        have s13 := s12.trans s3
        refine ⟨_, rfl, d, _, rfl, dget_s (s13 _ _ ed) v2, p3, a2, _, _, rfl, rfl, ep3, s13 _ _ e2, big (by simp only [List.length_map, List.length_append]; omega), fun pe ne => ?_⟩
        generalize hq : upd H3 pe _ = H4
        obtain ⟨s4, ee⟩ := new_facts ne hq
        clear hq
        rw [← List.map_append] at ee
        have s14 := s13.trans s4
        have nE0 : H pe = none := s13.free ne
        -- begins, goes
        refine ⟨_, rfl, _, rfl, d, k, m, ms, rfl, hB.same s14, hK.same s14, hC, by omega, fun H5 pb s5 nb eb => ?_⟩
        have s15 := s14.trans s5
        refine ⟨_, rfl, _, rfl, d, k, m, ms, rfl, hB.same s15, hK.same s15, hC, by omega, fun H6 pg s6 ng eg => ?_⟩
        have s16 := s15.trans s6
        refine ⟨Nat.zero_le _, fun F nF => ?_⟩
        generalize hq : upd H6 F _ = H7
        obtain ⟨s7, eF⟩ := new_facts nF hq
        clear hq
        refine ⟨_, _, _, rfl, ?_⟩
        have s17 := s16.trans s7
        have nB0 : H pb = none := s14.free nb
        have nG0 : H pg = none := s15.free ng
        have nF0 : H F = none := s16.free nF
        have ee7 := s7 _ _ (s6 _ _ (s5 _ _ ee))
        have eb7 := s7 _ _ (s6 _ _ eb)
        have eg7 := s7 _ _ eg
        have g0 : Go b G H G H7 := (Go.refl sG hb Gb).same s17
        have pb_b : pb ≠ b := hb.ne nB0
        have pg_b : pg ≠ b := hb.ne nG0
        have pe_b : pe ≠ b := hb.ne nE0
        have pF_b : F ≠ b := hb.ne nF0
        have pb_F : pb ≠ F := ne_of_none (s6 _ _ eb) nF
        have pg_F : pg ≠ F := ne_of_none eg nF
        have pe_F : pe ≠ F := ne_of_none (s6 _ _ (s5 _ _ ee)) nF
        have pb_g : pb ≠ pg := ne_of_none eb ng
        have pe_g : pe ≠ pg := ne_of_none (s5 _ _ ee) ng
        have pe_bb : pe ≠ pb := ne_of_none ee nb
        have fe : G pe = none := sG.free nE0
        have fb : G pb = none := sG.free nB0
        have fg : G pg = none := sG.free nG0
        have fF : G F = none := sG.free nF0
        obtain ⟨G1, hG1⟩ : ∃ G1, G1 = upd (upd (upd G pe (.lst ((endsS m).map V.str))) pb (.lst ((begS ms m).map V.str))) pg (.lst ((goeS ms m).map V.str)) := ⟨_, rfl⟩
        have g3' : Go b G H G1 H7 := by
          rw [hG1]
          exact ((g0.freeze nE0 ee7 fe pe_b).freeze nB0 eb7 (by rw [upd_ne pe_bb.symm]; exact fb) pb_b).freeze nG0 eg7 (by rw [upd_ne pb_g.symm, upd_ne pe_g.symm]; exact fg) pg_b
        have qg : G1 pg = some (.lst ((goeS ms m).map V.str)) := by rw [hG1, upd_same]
        have qb : G1 pb = some (.lst ((begS ms m).map V.str)) := by rw [hG1, upd_ne pb_g, upd_same]
        have qe : G1 pe = some (.lst ((endsS m).map V.str)) := by rw [hG1, upd_ne pe_g, upd_ne pe_bb, upd_same]
        have qF : G1 F = none := by rw [hG1, upd_ne pg_F.symm, upd_ne pb_F.symm, upd_ne pe_F.symm]; exact fF
        have lb0 : 0 < (begS ms m).length := by
          unfold begS
          have := B.sta0
          rw [List.length_append, List.length_append]
          omega
        have lg0 : 0 < (goeS ms m).length := by
          unfold goeS
          have := B.sta0
          rw [List.length_append, List.length_append]
          omega
        clear hG1 s1 s2 s3 s4 s5 s6 s7 s12 s13 s14 s15 s16 s17 ee7 eb7 eg7 ee eb eg ep1 ep3 eL n1 nL n3 ne nb ng nF g0 fe fb fg fF e1 e2 e3 e5 ed v0 v1 v2 v3 v5 g1 g2 g3 hcs hB hK hC pb_F pg_F pe_F pb_g pe_g pe_bb
        -- neither is empty
        refine ⟨_, rfl, Nat.zero_le _, fun r1 m1 => ?_⟩
        generalize hq : upd H7 r1 _ = H8
        obtain ⟨s8, er1⟩ := new_facts m1 hq
        clear hq
        have g8 := g3'.same s8
        refine ⟨pb, r1, _, rfl, rfl, SqL.of (g8.gh _ _ qb), SqL.of er1, _, rfl, ?_⟩
        rw [show ((begS ms m).map V.str).isEmpty = false by rw [List.isEmpty_map]; cases hz : begS ms m with | nil => rw [hz] at lb0; cases lb0 | cons x l => rfl]
        refine iteF ?_
        refine ⟨_, rfl, Nat.zero_le _, fun r2 m2 => ?_⟩
        generalize hq : upd H8 r2 _ = H9
        obtain ⟨s9, er2⟩ := new_facts m2 hq
        clear hq
        have g9 := g8.same s9
        refine ⟨pg, r2, _, rfl, rfl, SqL.of (g9.gh _ _ qg), SqL.of er2, _, rfl, ?_⟩
        rw [show ((goeS ms m).map V.str).isEmpty = false by rw [List.isEmpty_map]; cases hz : goeS ms m with | nil => rw [hz] at lg0; cases lg0 | cons x l => rfl]
        refine iteF ?_
        have eF9 : H9 F = some (.lst []) := s9 _ _ (s8 _ _ eF)
        clear s8 s9 er1 er2 m1 m2 g8 g3' eF
        -- the loop
        refine ⟨_, rfl, b, 7, rfl, by decide, by decide, g9.box, fun H10 j hj bx10 box10 => ?_⟩
        refine ⟨_, _, rfl, rfl, ((2 + j : Nat) : Int), (by show [V.int (2 + (j : Int))] = [V.int ((2 + j : Nat) : Int)]; rw [show (2 + (j : Int)) = ((2 + j : Nat) : Int) by omega]), by omega, by omega, ?_⟩
        refine for_range (lo := 0) (n := 2 + j) (fun i σ' H' => ∃ (Gi : Hp) (vs : List V) (ls : List (Str × Str × Nat × Nat)) (y7 y8 y9 y10 y11 : Option V), σ' = [some (.ref b), some (.ref d), some (.ref k), some (.ref pe), some (.ref pb), some (.ref pg), some (.ref F), y7, y8, y9, y10, y11, none, none] ∧
          Go b G H Gi H' ∧ Same G1 Gi ∧ Gi F = none ∧ H' F = some (.lst vs) ∧ DvAll Gi vs (ls.map linkD) ∧ ls.length = i ∧ ∀ l ∈ ls, linkOk ms m l) ?_ ?_ ?_
        · exact ⟨G1, [], [], none, none, none, none, none, rfl, g9.take bx10 box10, Same.refl _, qF, bx10 _ _ pF_b eF9, .nil, rfl, fun l hl => nomatch hl⟩
        · rintro i σ' H' hi ⟨Gi, vs, ls, y7, y8, y9, y10, y11, rfl, gg, s1, nF, eF, hv, hl, hok⟩
          have Fb := pF_b
          -- two ends
          refine ⟨_, rfl, _, rfl, b, pb, _, rfl, gg.box, pb_b, gg.gh _ _ (s1 _ _ qb), by rw [List.length_map]; exact lb0, by rw [List.length_map]; omega, fun Ha x hx bxa boxa => ?_⟩
          obtain ⟨f, hf, rfl⟩ := List.mem_map.mp hx
          have ga := gg.take bxa boxa
          refine ⟨_, rfl, _, rfl, b, pg, _, rfl, boxa, pg_b, ga.gh _ _ (s1 _ _ qg), by rw [List.length_map]; exact lg0, by rw [List.length_map]; omega, fun Hb x2 hx2 bxb boxb => ?_⟩
          obtain ⟨t, ht, rfl⟩ := List.mem_map.mp hx2
          have gb := ga.take bxb boxb
          have eFb := bxb _ _ pF_b (bxa _ _ pF_b eF)
          refine ⟨_, _, rfl, ?_⟩
          obtain ⟨⟨rf, sf⟩, okf, hdf⟩ := (bi f hf).head
          obtain ⟨⟨rt, st⟩, okt, hdt⟩ := (gi t ht).head
          have inf : headS f ∈ endsS m := by
            unfold endsS
            rcases hdf with h | h
            · exact List.mem_append_left _ (List.mem_append_left _ h)
            · exact List.mem_append_left _ (List.mem_append_right _ h)
          have int_ : headS t ∈ endsS m := by
            unfold endsS
            rcases hdt with h | h
            · rcases List.mem_append.mp h with h | h
              · exact List.mem_append_left _ (List.mem_append_left _ (List.mem_append_right _ h))
              · exact List.mem_append_right _ h
            · exact List.mem_append_left _ (List.mem_append_right _ h)
          have lenf : f.length ≤ 1000 := of_decide_eq_true (Bool.and_eq_true_iff.mp okf).2
          have lent : t.length ≤ 1000 := of_decide_eq_true (Bool.and_eq_true_iff.mp okt).2
          have idx : ∀ {x : Str}, x ∈ endsS m → ((endsS m).map V.str)[idxS (endsS m) x]? = some (.str x) ∧ eqV (.str x) (.str x) = true ∧ ∀ (j : Nat) (z' : V), j < idxS (endsS m) x → ((endsS m).map V.str)[j]? = some z' → eqV z' (.str x) = false := fun {x} hx => by
            refine ⟨by rw [List.getElem?_map, idxS_at hx]; rfl, beq_self_eq_true x, fun j z' hj e => ?_⟩
            rw [List.getElem?_map] at e
            obtain ⟨y, hy, rfl⟩ := Option.map_eq_some_iff.mp e
            exact idxS_no hj hy
          -- onward
          refine ⟨_, rfl, Or.inl ⟨rfl, _, SqL.of (gb.gh _ _ (s1 _ _ qe))⟩, _, rfl, ⟨_, rfl⟩, f, ".", rfl, rfl, by rfl, big (by omega), fun w1 m1 => ?_⟩
          generalize hq : upd Hb w1 _ = Hc
          obtain ⟨sc, ec⟩ := new_facts m1 hq
          clear hq
          have gc := gb.same sc
          refine ⟨w1, _, 0, .str (headS f), rfl, rfl, SqL.of ec, (show atI _ ((0 : Nat) : Int) = some _ from atI_nat (by rw [sf]; rfl)), ?_⟩
          obtain ⟨i1, i2, i3⟩ := idx inf
          refine ⟨pe, _, _, _, _, rfl, rfl, SqL.of (gc.gh _ _ (s1 _ _ qe)), rfl, flat_strs _, i1, i2, i3, ?_⟩
          refine ⟨_, rfl, Or.inl ⟨rfl, _, SqL.of (gc.gh _ _ (s1 _ _ qe))⟩, _, rfl, ⟨_, rfl⟩, t, ".", rfl, rfl, by rfl, big (by omega), fun w2 m2 => ?_⟩
          generalize hq : upd Hc w2 _ = Hd
          obtain ⟨sd, edd⟩ := new_facts m2 hq
          clear hq
          have gd := gc.same sd
          refine ⟨w2, _, 0, .str (headS t), rfl, rfl, SqL.of edd, (show atI _ ((0 : Nat) : Int) = some _ from atI_nat (by rw [st]; rfl)), ?_⟩
          obtain ⟨j1, j2, j3⟩ := idx int_
          refine ⟨pe, _, _, _, _, rfl, rfl, SqL.of (gd.gh _ _ (s1 _ _ qe)), rfl, flat_strs _, j1, j2, j3, ?_⟩
          refine ⟨_, _, rfl, rfl, ?_⟩
          have eFd : Hd F = some (.lst vs) := sd _ _ (sc _ _ eFb)
          have eo : decide (((idxS (endsS m) (headS f) : Nat) : Int) < ((idxS (endsS m) (headS t) : Nat) : Int)) = onward m f t := by
            unfold onward
            exact decide_eq_decide.mpr (by omega)
          have fin : ∀ (Hn : Hp) (k' l' : Nat) (tt : Addr) (y7 y11 : Option V), Go b G H Gi Hn → Hn F = some (.lst vs) → k' ≤ 2 → l' ≤ 9 → (k' = 0 → onward m f t = true) → Hn tt = none →
            ∃ (Gi : Hp) (vs_1 : List V) (ls : List (Str × Str × Nat × Nat)) (z7 z8 z9 z10 z11 : Option V), [some (V.ref b), some (.ref d), some (.ref k), some (.ref pe), some (.ref pb), some (.ref pg), some (.ref F), y7, some (.str f), some (.str t), some (.bl (onward m f t)), y11, none, none] = [some (.ref b), some (.ref d), some (.ref k), some (.ref pe), some (.ref pb), some (.ref pg), some (.ref F), z7, z8, z9, z10, z11, none, none] ∧
              Go b G H Gi (upd (upd Hn tt (.tup [.str f, .str t, .int (k' : Nat), .int (l' : Nat)])) F (.lst (vs ++ [.ref tt]))) ∧ Same G1 Gi ∧ Gi F = none ∧ (upd (upd Hn tt (.tup [.str f, .str t, .int (k' : Nat), .int (l' : Nat)])) F (.lst (vs ++ [.ref tt]))) F = some (.lst vs_1) ∧ DvAll Gi vs_1 (ls.map linkD) ∧ ls.length = i + 1 ∧ ∀ l ∈ ls, linkOk ms m l := fun Hn k' l' tt y7 y11 gn eFn hk' hl' ho ntt => by
            have ttF : tt ≠ F := (ne_of_none eFn ntt).symm
            have gl := gn.lay (o := .tup [.str f, .str t, .int (k' : Nat), .int (l' : Nat)]) ntt
            have gtt : Gi tt = none := gn.freeG ntt
            refine ⟨upd Gi tt (.tup [.str f, .str t, .int (k' : Nat), .int (l' : Nat)]), vs ++ [.ref tt], ls ++ [(f, t, k', l')], y7, _, _, _, y11, rfl, gl.change nF0 (by rw [upd_ne ttF.symm]; exact nF) pF_b, s1.trans (same_upd gtt), by rw [upd_ne ttF.symm]; exact nF, upd_same, ?_, by rw [List.length_append, hl]; rfl, ?_⟩
            · rw [List.map_append]
              refine (hv.same (same_upd gtt)).app ?_
              exact .cons (.tup upd_same (.cons (.str okf) (.cons (.str okt) (.cons (.int _) (.cons (.int _) .nil)))) (by show 4 ≤ 2000; decide)) .nil
            · intro l hl2
              rcases List.mem_append.mp hl2 with hl2 | hl2
              · exact hok l hl2
              · rw [List.mem_singleton.mp hl2]
                exact ⟨hf, ht, hk', hl', ho⟩
          clear sc sd ec edd m1 m2 gb gc ga bxa bxb boxa boxb eF eFb i1 i2 i3 j1 j2 j3
          have eo2 : (fun (i j : Int) => V.bl (decide (i < j))) ((idxS (endsS m) (headS f) : Nat) : Int) ((idxS (endsS m) (headS t) : Nat) : Int) = V.bl (onward m f t) := congrArg V.bl eo
          rw [eo2]
          clear eo eo2
          refine ⟨_, rfl, ?_⟩
          cases hon : onward m f t with
          | true =>
            rw [hon] at fin
            refine ⟨_, rfl, iteT ?_⟩
            refine ⟨_, rfl, b, 3, rfl, by decide, by decide, gd.box, fun He k1 hk1 bxe boxe => ?_⟩
            have ge := gd.take bxe boxe
            have eFe := bxe _ _ pF_b eFd
            refine ⟨_, rfl, Or.inl ⟨rfl, _, SqL.of eFe⟩, _, rfl, _, rfl, _, rfl, ?_⟩
            refine ⟨_, rfl, iteT ?_⟩
            refine ⟨_, rfl, b, 2, rfl, by decide, by decide, ge.box, fun Hf k2 hk2 bxf boxf => ?_⟩
            have gf := ge.take bxf boxf
            have eFf := bxf _ _ pF_b eFe
            refine ⟨rfl, _, rfl, ?_⟩
            refine ite2 (fun c => ?_) (fun c => ?_)
            · refine ⟨_, rfl, b, 10, rfl, by decide, by decide, gf.box, fun Hg k3 hk3 bxg boxg => ?_⟩
              have gg' := gf.take bxg boxg
              have eFg := bxg _ _ pF_b eFf
              refine ⟨Nat.le_of_ble_eq_true rfl, fun tt ntt => ?_⟩
              have ttF : F ≠ tt := ne_of_none eFg ntt
              refine ⟨F, vs, _, rfl, rfl, (by rw [upd_ne ttF]; exact eFg), small1000_2 (by rw [hv.len, List.length_map]; omega), ?_⟩
              exact fin Hg 0 k3 tt _ _ gg' eFg (by omega) (by omega) (fun _ => rfl) ntt
            · refine ⟨_, rfl, ?_⟩
              refine ⟨_, rfl, b, 10, rfl, by decide, by decide, gf.box, fun Hg k3 hk3 bxg boxg => ?_⟩
              have gg' := gf.take bxg boxg
              have eFg := bxg _ _ pF_b eFf
              refine ⟨Nat.le_of_ble_eq_true rfl, fun tt ntt => ?_⟩
              have ttF : F ≠ tt := ne_of_none eFg ntt
              refine ⟨F, vs, _, rfl, rfl, (by rw [upd_ne ttF]; exact eFg), small1000_2 (by rw [hv.len, List.length_map]; omega), ?_⟩
              exact fin Hg k1 k3 tt _ _ gg' eFg (by omega) (by omega) (fun _ => rfl) ntt
          | false =>
            rw [hon] at fin
            refine ⟨_, rfl, iteF ?_⟩
            refine ⟨_, rfl, b, 2, rfl, by decide, by decide, gd.box, fun He k1 hk1 bxe boxe => ?_⟩
            have ge := gd.take bxe boxe
            have eFe := bxe _ _ pF_b eFd
            refine ⟨_, _, rfl, rfl, ?_⟩
            have e1 : (fun (i j : Int) => V.int (i + j)) 1 (k1 : Int) = V.int ((1 + k1 : Nat) : Int) := congrArg V.int (by omega)
            rw [e1]
            refine ⟨_, rfl, Or.inl ⟨rfl, _, SqL.of eFe⟩, _, rfl, _, rfl, _, rfl, ?_⟩
            refine ⟨_, rfl, iteF ?_⟩
            refine iteF ?_
            refine ⟨_, rfl, ?_⟩
            refine ⟨_, rfl, b, 10, rfl, by decide, by decide, ge.box, fun Hg k3 hk3 bxg boxg => ?_⟩
            have gg' := ge.take bxg boxg
            have eFg := bxg _ _ pF_b eFe
            refine ⟨Nat.le_of_ble_eq_true rfl, fun tt ntt => ?_⟩
            have ttF : F ≠ tt := ne_of_none eFg ntt
            refine ⟨F, vs, _, rfl, rfl, (by rw [upd_ne ttF]; exact eFg), small1000_2 (by rw [hv.len, List.length_map]; omega), ?_⟩
            exact fin Hg (1 + k1) k3 tt _ _ gg' eFg (by omega) (by omega) (fun q => absurd q (by omega)) ntt
        · rintro σ' H' ⟨Gi, vs, ls, y7, y8, y9, y10, y11, rfl, gg, s1, nF, eF, hv, hl, hok⟩
          refine ⟨_, rfl, ?_⟩
          have g' := gg.freeze nF0 eF nF pF_b
          refine kk _ H' F ls g' (by omega) hok (.lst upd_same (hv.same (same_upd nF)) (by rw [List.length_map]; omega))
end
end My

namespace My
open PySem PySem.Spec PyProof.Rows L2
local macro_rules | `(tactic| walk_at "side") => `(tactic| first | (dsimp only; omega) | exact ⟨by omega, by omega⟩ | exact Or.inl ⟨by omega, by omega⟩ | exact Or.inr ⟨by omega, by omega⟩ | decide)
local macro_rules | `(tactic| walk_at "sq") => `(tactic| first | assumption | exact SqL.of (by assumption) | exact SqT.of (by assumption) | (refine L2.Same.seq (by assumption) ?_; walk_at "sq") | (refine L2.Same.seqT (by assumption) ?_; walk_at "sq") | exact Or.inl (by walk_at "sq") | exact Or.inr (by walk_at "sq"))
local macro_rules | `(tactic| walk_at "1") => `(tactic| first
  | refine ⟨_, rfl, iteT ?_⟩
  | refine ⟨_, rfl, iteF ?_⟩
  | refine ⟨_, rfl, ?_⟩
  | refine ⟨_, _, rfl, rfl, (by walk_at "side"), ?_⟩
  | refine ⟨_, _, rfl, rfl, ?_⟩
  | refine ⟨_, _, _, _, true, rfl, .ty _, .base (.int _), kit_ty (a := "int") (by decide +kernel), ?_⟩
  | refine ⟨_, _, _, _, false, rfl, .ty _, .base (.int _), kit_ty (a := "int") (by decide +kernel), ?_⟩
  | refine ⟨_, _, rfl, (by walk_at "sq"), ?_⟩
  | refine ⟨_, _, _, _, rfl, rfl, (by walk_at "sq"), (by first | rfl | assumption), ?_⟩
  | refine Or.inl ⟨_, _, _, _, rfl, rfl, (by walk_at "sq"), (by first | rfl | assumption), ?_⟩
  | refine Or.inr (Or.inl ⟨_, _, _, _, rfl, rfl, (by walk_at "sq"), (by first | rfl | assumption), ?_⟩)
  | refine ⟨_, _, rfl, Or.inl ⟨(by walk_at "sq"), ?_⟩⟩
  | refine ⟨rfl, ?_⟩
  | refine iteT ?_
  | refine iteF ?_
  | refine ⟨_, _, _, _, _, rfl, (by assumption), (by assumption), (by assumption), (by assumption), ?_⟩
  | refine Or.inl ⟨_, rfl, ?_⟩
  | refine Or.inr ⟨_, rfl, ?_⟩
  | refine ⟨_, _, rfl, (by walk_at "side"), ?_⟩
  | refine ⟨_, _, rfl, ?_⟩)
local macro_rules | `(tactic| walk_at "fld") => `(tactic| skip)
local macro_rules | `(tactic| walk_at "s") => `(tactic| repeat walk_at "1")
local macro_rules | `(tactic| walk_at "size") => `(tactic| first | exact Nat.le_of_ble_eq_true rfl | (simp only [List.length_map, List.length_append, List.length_cons, List.length_nil]; omega))
local macro_rules | `(tactic| walk_at "new") => `(tactic| (first | refine ⟨(by walk_at "size"), fun p hp => ?_⟩ | refine fun p hp => ?_); (generalize hq : upd _ p _ = H1); (obtain ⟨s, e⟩ := new_facts hp hq); clear hq)
/-! ## the dict of a module -/
theorem vput_same {kvs : List (Key × V)} {k : Key} {v : V} : valV (putK kvs k v) k = some v := by rw [valV_put, if_pos rfl]
theorem vput_ne {kvs : List (Key × V)} {k j : Key} {v : V} (h : j ≠ k) : valV (putK kvs k v) j = valV kvs j := by rw [valV_put, if_neg h]
theorem put_len {kvs : List (Key × V)} {k : Key} {v : V} {n : Nat} (h : kvs.length ≤ n) : (putK kvs k v).length ≤ n + 1 := Nat.le_trans (length_putK kvs k v) (by omega)
theorem key_ne {x y : Str} (h : x ≠ y) : (kS x : Key) ≠ kS y := fun q => h (Sum.inr.inj q)
/-- modules one by one -/
inductive MAll (G : Hp) : List V → List DM → Prop
  | nil : MAll G [] []
  | cons {v : V} {m : DM} {vs : List V} {ms : List DM} (h : ModF G v m) (t : MAll G vs ms) : MAll G (v :: vs) (m :: ms)
theorem MAll.same {G G' : Hp} (s : Same G G') : ∀ {vs : List V} {ms : List DM}, MAll G vs ms → MAll G' vs ms
  | _, _, .nil => .nil
  | _, _, .cons h t => .cons (h.same s) (MAll.same s t)
theorem MAll.len {G : Hp} : ∀ {vs : List V} {ms : List DM}, MAll G vs ms → vs.length = ms.length
  | _, _, .nil => rfl
  | _, _, .cons _ t => by rw [List.length_cons, List.length_cons, MAll.len t]
theorem MAll.mem {G : Hp} : ∀ {vs : List V} {ms : List DM}, MAll G vs ms → ∀ v ∈ vs, ∃ m ∈ ms, ModF G v m
  | _, _, .nil, v, h => nomatch h
  | _, _, .cons h t, v, hv => by
    rcases List.mem_cons.mp hv with rfl | hv
    · exact ⟨_, List.mem_cons_self .., h⟩
    · obtain ⟨m, hm, q⟩ := MAll.mem t v hv
      exact ⟨m, List.mem_cons_of_mem _ hm, q⟩
theorem MAll.get {G : Hp} : ∀ {vs : List V} {ms : List DM}, MAll G vs ms → ∀ {i : Nat} {v : V}, vs[i]? = some v → ∃ m, ms[i]? = some m ∧ ModF G v m
  | _, _, .nil, i, v, h => by cases i <;> cases h
  | _, _, .cons h t, 0, v, e => by
    cases e
    exact ⟨_, rfl, h⟩
  | _, _, .cons h t, i + 1, v, e => MAll.get t (i := i) e
theorem MAll.app {G : Hp} : ∀ {vs ws : List V} {ms ns : List DM}, MAll G vs ms → MAll G ws ns → MAll G (vs ++ ws) (ms ++ ns)
  | _, _, _, _, .nil, h => h
  | _, _, _, _, .cons h t, g => .cons h (MAll.app t g)
def zipK : List V → List DM → List (Key × V)
  | v :: vs, m :: ms => (kS m.name, v) :: zipK vs ms
  | _, _ => []
theorem merge_other : ∀ (vs : List V) (ms : List DM) (acc : List (Key × V)) (n : Str), (∀ m ∈ ms, m.name ≠ n) → valV (mergeK acc (zipK vs ms)) (kS n) = valV acc (kS n)
  | [], ms, acc, n, _ => by cases ms <;> rfl
  | v :: vs, [], acc, n, _ => rfl
  | v :: vs, m :: ms, acc, n, h => by
    show valV (mergeK (putK acc (kS m.name) v) (zipK vs ms)) (kS n) = _
    rw [merge_other vs ms _ n fun m' hm => h m' (List.mem_cons_of_mem _ hm), vput_ne (key_ne (Ne.symm (h m (List.mem_cons_self ..))))]
theorem merge_val {G : Hp} : ∀ {vs : List V} {ms : List DM}, MAll G vs ms → (ms.map (·.name)).Nodup → ∀ (acc : List (Key × V)) (n : Str) (m : DM), findM ms n = some m → ∃ v, valV (mergeK acc (zipK vs ms)) (kS n) = some v ∧ ModF G v m
  | _, _, .nil, _, acc, n, m, h => nomatch h
  | v :: vs, m' :: ms, .cons hm t, nd, acc, n, m, h => by
    rw [List.map_cons, List.nodup_cons] at nd
    show ∃ v', valV (mergeK (putK acc (kS m'.name) v) (zipK vs ms)) (kS n) = some v' ∧ ModF G v' m
    by_cases e : m'.name = n
    · subst e
      have : findM (m' :: ms) m'.name = some m' := by
        unfold findM
        rw [List.find?_cons, decide_eq_true rfl]
      rw [this] at h
      cases h
      refine ⟨v, ?_, hm⟩
      rw [merge_other vs ms _ _ fun m2 h2 q => nd.1 (List.mem_map.mpr ⟨m2, h2, q⟩), vput_same]
    · have : findM (m' :: ms) n = findM ms n := by
        unfold findM
        rw [List.find?_cons, decide_eq_false e]
      rw [this] at h
      exact merge_val t nd.2 _ n m h
theorem findM_some {ms : List DM} {m : DM} (h : m ∈ ms) : ∃ m', findM ms m.name = some m' := by
  unfold findM
  cases e : ms.find? fun m' => decide (m'.name = m.name) with
  | none =>
    have := List.find?_eq_none.mp e m h
    exact absurd (decide_eq_true rfl) this
  | some m' => exact ⟨m', rfl⟩
theorem zipK_get : ∀ {ws : List V} {ms : List DM} {j : Nat} {v : V} {m : DM}, ws[j]? = some v → ms[j]? = some m → (zipK ws ms)[j]? = some (kS m.name, v)
  | [], _, j, v, m, h, _ => by cases j <;> cases h
  | _ :: _, [], j, v, m, _, h => by cases j <;> cases h
  | w :: ws, k :: ms, 0, v, m, h, g => by
    cases h
    cases g
    rfl
  | w :: ws, k :: ms, j + 1, v, m, h, g => zipK_get (ws := ws) (ms := ms) (j := j) h g
theorem zipK_len : ∀ {ws : List V} {ms : List DM}, ws.length = ms.length → (zipK ws ms).length = ws.length
  | [], [], _ => rfl
  | [], _ :: _, h => nomatch h
  | _ :: _, [], h => nomatch h
  | w :: ws, k :: ms, h => by
    show (zipK ws ms).length + 1 = ws.length + 1
    rw [zipK_len (by simpa using h)]
theorem cut4 (ns : List Str) (i o s : Nat) : ns.take i ++ ((ns.drop i).take o ++ ((ns.drop (i + o)).take s ++ ns.drop (i + o + s))) = ns := by
  rw [show ns.drop (i + o + s) = (ns.drop (i + o)).drop s by rw [List.drop_drop], List.take_append_drop, show ns.drop (i + o) = (ns.drop i).drop o by rw [List.drop_drop], List.take_append_drop, List.take_append_drop]
def spModule : Sp := fun vs H Q _ => ∃ (b sz cl : Addr) (n : Str) (G : Hp) (i o s c : Nat) (ws : List V) (ms : List DM), vs = [.ref b, .str n, .ref sz, .ref cl] ∧ Same G H ∧ BoxAt H b ∧ G b = none ∧ H sz = some (.tup [.int (i : Nat), .int (o : Nat), .int (s : Nat), .int (c : Nat)]) ∧ cl ≠ b ∧ H cl = some (.lst ws) ∧ MAll G ws ms ∧
  i ≤ 2 ∧ 1 ≤ o ∧ o ≤ 2 ∧ 1 ≤ s ∧ s ≤ 2 ∧ c ≤ 2 ∧ (ms = [] → c = 0) ∧ ms.length ≤ 3 ∧ (ms.map (·.name)).Nodup ∧ (∀ m' ∈ ms, DMBase m') ∧ n ∈ modNames ∧
  ∀ (G' H' : Hp) (v : V) (m : DM), Go b G H G' H' → DMOk ms m → m.name = n → ModF G' v m → Q v H'
section
variable {P : Program} {w : World} {K : PySem.W.Frag} {mg : Str → Option Value} {base : Heap}
abbrev s_law_module : Stmt := topS 54
theorem sc_law_module : FnScope ["box", "name", "sizes", "called", "inlets", "outlets", "stations", "many", "names", "found", "labels", "known", "label", "one"] ["box", "name", "sizes", "called"] (defScope s_law_module) := ⟨rfl, rfl, rfl, by decide +kernel, rfl, by decide +kernel, by decide +kernel⟩
set_option maxHeartbeats 16000000 in
theorem ok_module (D : Df K mg "_law_module" s_law_module ["box", "name", "sizes", "called"]) (T : Txt mg) (o_law_names : Own P w K mg base "_law_names" 3 ["box", "many"] spNames) (o_law_pick : Own P w K mg base "_law_pick" 2 ["box", "items"] spPick)
    (o_law_links : Own P w K mg base "_law_links" 3 ["box", "module", "known"] spLinks) : Own P w K mg base "_law_module" 4 ["box", "name", "sizes", "called"] spModule := by
  refine D.own sc_law_module (fun vs H Q E h => ?_) (fun f cdv A outer s H vs Q E hr h => ?_)
  · obtain ⟨_, _, _, _, _, _, _, _, _, _, _, rfl, _⟩ := h
    rfl
  · obtain ⟨b, sz, cl, n, G, i, o, st, c, ws, ms, rfl, sG, hb, Gb, hsz, clb, hcl, hM, hi, ho1, ho2, hs1, hs2, hc, hc0, hms, hnd, hB, hn, kk⟩ := h
    have hu := hu_of hr
    refine ⟨_, (pss_cons (ps_asg (pv 2) (pg_tup (by rfl) (pgs_cons (pg_name (i := 4) sc_law_module.nd rfl (Or.inl rfl)) (pgs_cons (pg_name (i := 5) sc_law_module.nd rfl (Or.inl rfl)) (pgs_cons (pg_name (i := 6) sc_law_module.nd rfl (Or.inl rfl)) (pgs_cons (pg_name (i := 7) sc_law_module.nd rfl (Or.inl rfl)) pgs_nil))))))
  (pss_cons (ps_set (i := 8) sc_law_module.nd rfl (Or.inl rfl) (pe_own o_law_names (hr.mono (by decide)) (pa_cons (pv 0) (pa_cons (pe_op op_add (pe_op op_add (pe_op op_add (pv 4) (pv 5)) (pv 6)) (pv 7)) pa_nil))))
  (pss_cons (ps_set (i := 9) sc_law_module.nd rfl (Or.inl rfl) (pe_disp (pps_cons pe_str (pv 1) (pps_cons pe_str (pe_slice sl_list (pv 8) po_none (po_some (pv 4))) (pps_cons pe_str (pe_slice sl_list (pv 8) (po_some (pv 4)) (po_some (pe_op op_add (pv 4) (pv 5)))) pps_nil))) (by rfl) (by rfl) (by simp) (by decide)))
  (pss_cons (ps_dput hu (pv 9) pe_str (pe_slice sl_list (pv 8) (po_some (pe_op op_add (pv 4) (pv 5))) (po_some (pe_op op_add (pe_op op_add (pv 4) (pv 5)) (pv 6)))) rfl)
  (C8.pss_cut (ps_set (i := 10) sc_law_module.nd rfl (Or.inl rfl) (pe_ifExp (pt_cmpR (op_neN hr.units) (pv 3) (pe_lst pa_nil) (nomark _)) (pe_slice sl_list (pv 8) (po_some (pe_op op_add (pe_op op_add (pv 4) (pv 5)) (pv 6))) po_none) (pe_lst pa_nil)))
  (pss_cons (ps_dput hu (pv 9) pe_str (pe_lc (own := [("label", 12)]) (g := gName 12) (tt := tYes) rfl sc_law_module.nd (pi_list (pv 10)) (blkOk_by (own := [("label", 12)]) (N := ["box", "name", "sizes", "called", "inlets", "outlets", "stations", "many", "names", "found", "labels", "known", "label", "one"]) (sc := defScope s_law_module) (by decide +kernel)) (fun _ _ _ _ _ => (pg_name (i := 12) sc_law_module.nd rfl (Or.inl rfl))) (fun _ _ _ _ _ => pts_nil) (fun _ _ _ _ _ => (pe_tup (pa_cons (pv 12) (pa_cons (pe_dget hu (pe_own o_law_pick (hr.mono (by decide)) (pa_cons (pv 0) (pa_cons (pv 3) pa_nil))) pe_str (fun _ _ => rfl)) pa_nil))))) rfl)
  (pss_cons (ps_set (i := 11) sc_law_module.nd rfl (Or.inl rfl) (pe_callTy (call_dictP (by rfl)) (by rfl) T.dict (by decide +kernel) (pa_cons (pe_lc (own := [("one", 13)]) (g := gName 13) (tt := tYes) rfl sc_law_module.nd (pi_list (pv 3)) (blkOk_by (own := [("one", 13)]) (N := ["box", "name", "sizes", "called", "inlets", "outlets", "stations", "many", "names", "found", "labels", "known", "label", "one"]) (sc := defScope s_law_module) (by decide +kernel)) (fun _ _ _ _ _ => (pg_name (i := 13) sc_law_module.nd rfl (Or.inl rfl))) (fun _ _ _ _ _ => pts_nil) (fun _ _ _ _ _ => (pe_tup (pa_cons (pe_dget hu (pv 13) pe_str (fun _ _ => rfl)) (pa_cons (pv 13) pa_nil))))) pa_nil)))
  (pss_cons (ps_dput hu (pv 9) pe_str (pe_own o_law_links (hr.mono (by decide)) (pa_cons (pv 0) (pa_cons (pv 9) (pa_cons (pv 11) pa_nil)))) rfl)
  (pss_one (ps_ret (pv 9))))))))))), ?_⟩
    have big : ∀ {n : Nat}, n ≤ 40000 → n ≤ sizeLine := fun h => Nat.le_trans h (by decide)
    refine ⟨_, rfl, sz, _, rfl, SqT.of hsz, rfl, _, _, rfl, _, _, rfl, _, _, rfl, _, _, rfl, rfl, ?_⟩
    refine ⟨_, rfl, _, rfl, _, rfl, _, _, rfl, rfl, _, rfl, _, _, rfl, rfl, _, rfl, _, _, rfl, rfl, b, i + o + st + c, (by show [V.ref b, V.int ((i : Int) + o + st + c)] = [V.ref b, V.int ((i + o + st + c : Nat) : Int)]; rw [show ((i : Int) + o + st + c) = ((i + o + st + c : Nat) : Int) by omega]), hb, by omega, fun H1 N ns nsN nsA nsL bx1 box1 nN eN => ?_⟩
    have Nb : N ≠ b := hb.ne nN
    have g1 : Go b G H G H1 := (Go.refl sG hb Gb).take bx1 box1
    obtain ⟨G1, hG1⟩ : ∃ G1, G1 = upd G N (.lst (ns.map V.str)) := ⟨_, rfl⟩
    have g1 : Go b G H G1 H1 := by
      rw [hG1]
      exact g1.freeze nN eN (g1.gs.free (sG.free nN) |> fun _ => sG.free nN) Nb
    have gN : G1 N = some (.lst (ns.map V.str)) := by rw [hG1, upd_same]
    have sG1 : Same G G1 := by
      rw [hG1]
      exact same_upd (sG.free nN)
    have ecl1 : H1 cl = some (.lst ws) := bx1 _ _ clb hcl
    have hnl : (ns.map V.str).length = i + o + st + c := by rw [List.length_map, nsL]
    have lle : ns.length ≤ 8 := by omega
    clear hG1 eN bx1 box1
    -- the dict
    refine fun d nd => ?_
    generalize hq : upd H1 d _ = H2
    obtain ⟨s2, e2⟩ := new_facts nd hq
    clear hq
    have nd0 : H d = none := g1.free0 nd
    have dGd : G1 d = none := g1.freeG nd
    have db : d ≠ b := g1.ne nd
    have g2 := g1.same s2
    have ecl2 := s2 _ _ ecl1
    have dcl : cl ≠ d := ne_of_none ecl1 nd
    clear g1 s2 nd
    refine ⟨_, rfl, _, rfl, _, rfl, _, rfl, N, _, rfl, SqL.of (g2.gh _ _ gN), fun A1 n1 => ?_⟩
    generalize hq : upd H2 A1 _ = H3
    obtain ⟨G2, g3, sG2, s3, r1, nn⟩ := g2.laid n1 hq
    clear hq
    rw [cut_to, ← List.map_take] at r1
    have dGd := nn d dGd (ne_of_none e2 n1)
    have e2 := s3 _ _ e2
    have ecl2 := s3 _ _ ecl2
    have gN := sG2 _ _ gN
    have sG1 := sG1.trans sG2
    clear g2 n1 s3 sG2 nn
    refine ⟨_, rfl, _, rfl, _, rfl, _, rfl, _, rfl, _, _, rfl, rfl, _, rfl, N, _, rfl, SqL.of (g3.gh _ _ gN), fun A2 n2 => ?_⟩
    generalize hq : upd H3 A2 _ = H4
    obtain ⟨G3, g4, sG3, s4, r2, nn⟩ := g3.laid n2 hq
    clear hq
    rw [show ((i : Int) + (o : Int)) = ((i + o : Nat) : Int) by omega, cut_mid (by omega) (by omega), ← List.map_drop, ← List.map_take, Nat.add_sub_cancel_left] at r2
    have dGd := nn d dGd (ne_of_none e2 n2)
    have e2 := s4 _ _ e2
    have ecl2 := s4 _ _ ecl2
    have gN := sG3 _ _ gN
    have sG1 := sG1.trans sG3
    have r1 := sG3 _ _ r1
    clear g3 n2 s4 sG3 nn
    refine ⟨e2, [(kS "name", .str n), (kS "inlets", .ref A1), (kS "outlets", .ref A2)], rfl, by show 3 ≤ 15; decide, ?_⟩
    generalize hK3 : mergeK [] [((kS "name" : Key), V.str n), (kS "inlets", V.ref A1), (kS "outlets", V.ref A2)] = K3
    have k3n : valV K3 (kS "name") = some (.str n) := by
      rw [← hK3]
      show valV (putK (putK (putK [] (kS "name") (.str n)) (kS "inlets") (.ref A1)) (kS "outlets") (.ref A2)) _ = _
      rw [vput_ne (key_ne (by decide)), vput_ne (key_ne (by decide)), vput_same]
    have k3i : valV K3 (kS "inlets") = some (.ref A1) := by
      rw [← hK3]
      show valV (putK (putK (putK [] (kS "name") (.str n)) (kS "inlets") (.ref A1)) (kS "outlets") (.ref A2)) _ = _
      rw [vput_ne (key_ne (by decide)), vput_same]
    have k3o : valV K3 (kS "outlets") = some (.ref A2) := by
      rw [← hK3]
      show valV (putK (putK (putK [] (kS "name") (.str n)) (kS "inlets") (.ref A1)) (kS "outlets") (.ref A2)) _ = _
      rw [vput_same]
    have k3l : K3.length ≤ 3 := by
      rw [← hK3]
      exact length_mergeK _ []
    clear hK3
    have g5 := g4.change (o := .dK K3) nd0 dGd db
    have e5 : (upd H4 d (.dK K3)) d = some (.dK K3) := upd_same
    have ecl5 : (upd H4 d (.dK K3)) cl = some (.lst ws) := by rw [upd_ne dcl]; exact ecl2
    generalize upd H4 d (.dK K3) = H5 at g5 e5 ecl5 ⊢
    clear g4 e2 ecl2
    -- stations
    refine ⟨_, rfl, _, rfl, _, rfl, _, _, rfl, rfl, _, rfl, _, rfl, _, rfl, _, _, rfl, rfl, _, rfl, _, _, rfl, rfl, _, rfl, N, _, rfl, SqL.of (g5.gh _ _ gN), fun A3 n3 => ?_⟩
    generalize hq : upd H5 A3 _ = H6
    obtain ⟨G4, g6, sG4, s6, r3, nn⟩ := g5.laid n3 hq
    clear hq
    rw [show ((i : Int) + (o : Int)) = ((i + o : Nat) : Int) by omega, show (((i + o : Nat) : Int) + (st : Int)) = ((i + o + st : Nat) : Int) by omega, cut_mid (by omega) (by omega), ← List.map_drop, ← List.map_take, Nat.add_sub_cancel_left] at r3
    have dGd := nn d dGd (ne_of_none e5 n3)
    have e5 := s6 _ _ e5
    have ecl5 := s6 _ _ ecl5
    have gN := sG4 _ _ gN
    have sG1 := sG1.trans sG4
    have r1 := sG4 _ _ r1
    have r2 := sG4 _ _ r2
    clear g5 n3 s6 sG4 nn
    refine ⟨_, rfl, d, _, rfl, DPut.k (k := kS "stations") e5 (Nat.lt_of_le_of_lt k3l (by decide)), ?_⟩
    have k4n := (vput_ne (kvs := K3) (v := .ref A3) (key_ne (x := "name") (y := "stations") (by decide))).trans k3n
    have k4i := (vput_ne (kvs := K3) (v := .ref A3) (key_ne (x := "inlets") (y := "stations") (by decide))).trans k3i
    have k4o := (vput_ne (kvs := K3) (v := .ref A3) (key_ne (x := "outlets") (y := "stations") (by decide))).trans k3o
    have k4s := vput_same (kvs := K3) (k := kS "stations") (v := .ref A3)
    have k4l := put_len (k := kS "stations") (v := .ref A3) k3l
    generalize putK K3 (kS "stations") (.ref A3) = K4 at k4n k4i k4o k4s k4l ⊢
    clear k3n k3i k3o k3l
    have g7 := g6.change (o := .dK K4) nd0 dGd db
    have e7 : (upd H6 d (.dK K4)) d = some (.dK K4) := upd_same
    have ecl7 : (upd H6 d (.dK K4)) cl = some (.lst ws) := by rw [upd_ne dcl]; exact ecl5
    generalize upd H6 d (.dK K4) = H7 at g7 e7 ecl7 ⊢
    clear g6 e5 ecl5
    -- labels
    have hM4 : MAll G4 ws ms := hM.same sG1
    obtain ⟨lbs, hlbs⟩ : ∃ lbs, lbs = ns.drop (i + o + st) := ⟨_, rfl⟩
    have lbl : lbs.length = c := by rw [hlbs, List.length_drop]; omega
    refine ⟨fun σ' H' => ∃ (G5 : Hp) (Lb : Addr), σ' = [some (.ref b), some (.str n), some (.ref sz), some (.ref cl), some (.int (i : Nat)), some (.int (o : Nat)), some (.int (st : Nat)), some (.int (c : Nat)), some (.ref N), some (.ref d), some (.ref Lb), none, none, none] ∧
      Go b G H G5 H' ∧ Same G4 G5 ∧ G5 d = none ∧ G5 Lb = some (.lst (lbs.map V.str)) ∧ H' d = some (.dK K4) ∧ H' cl = some (.lst ws), ?_, ?_⟩
    · refine ⟨_, rfl, Nat.zero_le _, fun r nr => ?_⟩
      generalize hq : upd H7 r _ = H8
      obtain ⟨s8, e8⟩ := new_facts nr hq
      clear hq
      have g8 := g7.same s8
      have e7 := s8 _ _ e7
      have ecl7 := s8 _ _ ecl7
      refine ⟨cl, r, ws, rfl, rfl, SqL.of ecl7, SqL.of e8, _, rfl, ?_⟩
      clear s8 e8 nr g7
      cases hz : ws.isEmpty with
      | true =>
        have ms0 : ms = [] := by
          have : ws = [] := List.isEmpty_iff.mp hz
          rw [this] at hM
          cases hM
          rfl
        have lb0 : lbs = [] := List.eq_nil_of_length_eq_zero (by rw [lbl]; exact hc0 ms0)
        refine iteF ?_
        refine ⟨Nat.zero_le _, fun Lb nL => ?_⟩
        generalize hq : upd H8 Lb _ = H9
        obtain ⟨G5, g9, sG5, s9, r5, nn⟩ := g8.laid nL hq
        exact ⟨G5, Lb, rfl, g9, sG5, nn d dGd (ne_of_none e7 nL), by rw [r5, lb0]; rfl, s9 _ _ e7, s9 _ _ ecl7⟩
      | false =>
        refine iteT ?_
        refine ⟨_, rfl, _, rfl, _, rfl, _, _, rfl, rfl, _, rfl, _, _, rfl, rfl, _, rfl, N, _, rfl, SqL.of (g8.gh _ _ gN), fun Lb nL => ?_⟩
        generalize hq : upd H8 Lb _ = H9
        obtain ⟨G5, g9, sG5, s9, r5, nn⟩ := g8.laid nL hq
        rw [show ((i : Int) + (o : Int)) = ((i + o : Nat) : Int) by omega, show (((i + o : Nat) : Int) + (st : Int)) = ((i + o + st : Nat) : Int) by omega, cut_from, ← List.map_drop, ← hlbs] at r5
        exact ⟨G5, Lb, rfl, g9, sG5, nn d dGd (ne_of_none e7 nL), r5, s9 _ _ e7, s9 _ _ ecl7⟩
    · rintro σ' H' ⟨G5, Lb, rfl, g5, sG5, dGd, gLb, ed, ecl⟩
      have r1 := sG5 _ _ r1
      have r2 := sG5 _ _ r2
      have r3 := sG5 _ _ r3
      have hM5 := hM4.same sG5
      clear hM4 sG5 gN sG1 g7 e7 ecl7
      have nsS : ∀ x ∈ ns, nameS x = true := fun x hx => namesAll_name x (nsA x hx)
      have lbS : ∀ x ∈ lbs, nameS x = true := fun x hx => nsS x (by rw [hlbs] at hx; exact List.mem_of_mem_drop hx)
      -- calls
      refine ⟨_, rfl, Lb, rfl, ⟨_, SqL.of (g5.gh _ _ gLb)⟩, fun L nL => ?_⟩
      have dL : d ≠ L := ne_of_none ed nL
      have clL : cl ≠ L := ne_of_none ecl nL
      have Lb_ : L ≠ b := g5.ne nL
      have nL0 : H L = none := g5.free0 nL
      refine lc_seq (H0 := G5) (seqIt_l (SqL.of gLb)) (fun j H2 => ∃ (Gj : Hp) (vs : List V) (cs : List (Str × Str)), Go b G H Gj H2 ∧ Same G5 Gj ∧ Gj d = none ∧ Gj L = none ∧ H2 d = some (.dK K4) ∧ H2 cl = some (.lst ws) ∧ H2 L = some (.lst vs) ∧ DvAll Gj vs (cs.map callD) ∧ cs.map (·.1) = lbs.take j ∧ (∀ c ∈ cs, ∃ m', findM ms c.2 = some m')) ?_ ?_ ?_ ?_
      · have gL := g5.freeG nL
        refine ⟨G5, [], [], g5.same (same_upd nL), Same.refl _, dGd, gL, by rw [upd_ne dL]; exact ed, by rw [upd_ne clL]; exact ecl, upd_same, .nil, rfl, fun c hc => nomatch hc⟩
      · rintro j H2 ⟨Gj, vs, cs, gj, sj, _⟩
        exact sj.trans gj.gh
      · rintro j x H2 hx ⟨Gj, vs, cs, gj, sj, djn, Ljn, ed2, ecl2, eL2, hv, hcs, hcm⟩
        rw [List.getElem?_map] at hx
        obtain ⟨l, hl, rfl⟩ := Option.map_eq_some_iff.mp hx
        have hj : j < lbs.length := (List.getElem?_eq_some_iff.mp hl).1
        have cpos : 0 < ws.length := by
          rw [hM.len]
          cases hms0 : ms with
          | nil =>
            have := hc0 hms0
            omega
          | cons a l => exact Nat.succ_pos _
        refine ⟨rfl, _, rfl, _, rfl, _, rfl, b, cl, ws, rfl, gj.box, clb, ecl2, cpos, by rw [hM.len]; omega, fun H3 y hy bx3 box3 => ?_⟩
        obtain ⟨m', hm', hF⟩ := (hM5.same sj).mem y hy
        have g3 := gj.take bx3 box3
        obtain ⟨dd, kvs, a1, a2, a3, a4, a5, rfl, edd, w0, _⟩ := hF
        refine ⟨dd, _, rfl, dget_s (g3.gh _ _ edd) w0, ?_⟩
        refine ⟨Nat.le_of_ble_eq_true rfl, fun t nt => ?_⟩
        have eL3 := bx3 _ _ Lb_ eL2
        have ed3 := bx3 _ _ db ed2
        have ecl3 := bx3 _ _ clb ecl2
        have tL : L ≠ t := ne_of_none eL3 nt
        have td : d ≠ t := ne_of_none ed3 nt
        have tcl : cl ≠ t := ne_of_none ecl3 nt
        generalize hq : upd H3 t _ = H4
        obtain ⟨G6, g6, sG6, s4, r6, nn⟩ := g3.laid nt hq
        clear hq
        have okl : okS l = true := okS_name (lbS l (List.mem_of_getElem? hl))
        have okm : okS m'.name = true := okS_name (show nameS m'.name = true from (by decide +kernel : ∀ x ∈ modNames, nameS x = true) _ (hB m' hm').name)
        have dvt : Dv G6 (.ref t) (callD (l, m'.name)) := .tup r6 (.cons (.str okl) (.cons (.str okm) .nil)) (by show 2 ≤ 2000; decide)
        have G6L := nn L Ljn tL
        refine ⟨vs, s4 _ _ eL3, small1000_2 (by have := hv.len; rw [List.length_map] at this; have h2 := congrArg List.length hcs; rw [List.length_map, List.length_take] at h2; omega), G6, vs ++ [.ref t], cs ++ [(l, m'.name)], g6.change nL0 G6L Lb_, sj.trans sG6, nn d djn td, G6L, by rw [upd_ne dL]; exact s4 _ _ ed3, by rw [upd_ne clL]; exact s4 _ _ ecl3, upd_same, ?_, ?_, ?_⟩
        · rw [List.map_append]
          exact (hv.same sG6).app (.cons dvt .nil)
        · rw [List.map_append, hcs, List.take_add_one, hl]
          rfl
        · intro c hc
          rcases List.mem_append.mp hc with hc | hc
          · exact hcm c hc
          · rw [List.mem_singleton.mp hc]
            exact findM_some hm'
      · rintro H2 ⟨Gj, vs, cs, gj, sj, djn, Ljn, ed2, ecl2, eL2, hv, hcs, hcm⟩
        rw [List.length_map, List.take_length] at hcs
        have g6 := gj.freeze nL0 eL2 Ljn Lb_
        have sG6 : Same G5 (upd Gj L (.lst vs)) := sj.trans (same_upd Ljn)
        have dG6 : (upd Gj L (.lst vs)) d = none := by rw [upd_ne dL]; exact djn
        have lcs : cs.length ≤ 2 := by
          have := congrArg List.length hcs
          rw [List.length_map] at this
          omega
        have dvc : Dv (upd Gj L (.lst vs)) (.ref L) (.list (cs.map callD)) := .lst upd_same (hv.same (same_upd Ljn)) (by rw [List.length_map]; omega)
        generalize upd Gj L (.lst vs) = G6 at g6 sG6 dG6 dvc
        have r1 := sG6 _ _ r1
        have r2 := sG6 _ _ r2
        have r3 := sG6 _ _ r3
        have hM6 := hM5.same sG6
        clear gj sj djn Ljn hv hM5 g5 gLb sG6 eL2 ed ecl dGd
        refine ⟨_, rfl, d, _, rfl, DPut.k (k := kS "calls") ed2 (Nat.lt_of_le_of_lt k4l (by decide)), ?_⟩
        have k5n := (vput_ne (kvs := K4) (v := .ref L) (key_ne (x := "name") (y := "calls") (by decide))).trans k4n
        have k5i := (vput_ne (kvs := K4) (v := .ref L) (key_ne (x := "inlets") (y := "calls") (by decide))).trans k4i
        have k5o := (vput_ne (kvs := K4) (v := .ref L) (key_ne (x := "outlets") (y := "calls") (by decide))).trans k4o
        have k5s := (vput_ne (kvs := K4) (v := .ref L) (key_ne (x := "stations") (y := "calls") (by decide))).trans k4s
        have k5c := vput_same (kvs := K4) (k := kS "calls") (v := .ref L)
        have k5l := put_len (k := kS "calls") (v := .ref L) k4l
        generalize putK K4 (kS "calls") (.ref L) = K5 at k5n k5i k5o k5s k5c k5l ⊢
        clear k4n k4i k4o k4s k4l
        have g7 := g6.change (o := .dK K5) nd0 dG6 db
        have e7 : (upd H2 d (.dK K5)) d = some (.dK K5) := upd_same
        have ecl7 : (upd H2 d (.dK K5)) cl = some (.lst ws) := by rw [upd_ne dcl]; exact ecl2
        generalize upd H2 d (.dK K5) = H7 at g7 e7 ecl7 ⊢
        clear g6 ed2 ecl2
        -- known
        refine ⟨_, rfl, cl, rfl, ⟨_, SqL.of ecl7⟩, fun L2 nL2 => ?_⟩
        refine lc_seq (H0 := H7) (seqIt_l (SqL.of ecl7)) (fun j H8 => Same H7 H8 ∧ ∃ ps : List Addr, H8 L2 = some (.lst (ps.map V.ref)) ∧ Paired (fun p (kv : Key × V) => SqT K H8 p [kV kv.1, kv.2]) ps ((zipK ws ms).take j)) ⟨same_upd nL2, [], upd_same, .nil⟩ (fun j H q => q.1) ?_ ?_
        · rintro j x H8 hx ⟨s8, ps, eL8, hp⟩
          obtain ⟨m', hm', hF⟩ := hM6.get hx
          have hj : j < ws.length := (List.getElem?_eq_some_iff.mp hx).1
          obtain ⟨dd, kvs, a1, a2, a3, a4, a5, rfl, edd, w0, _⟩ := hF
          refine ⟨rfl, _, rfl, dd, _, rfl, dget_s (s8 _ _ (g7.gh _ _ edd)) w0, _, rfl, Nat.le_of_ble_eq_true rfl, fun t nt => ?_⟩
          have pl := Paired.length hp
          have tL : L2 ≠ t := ne_of_none eL8 nt
          have nL8 : H7 L2 = none := nL2
          generalize hq : upd H8 t _ = H9
          obtain ⟨s9, e9⟩ := new_facts nt hq
          clear hq
          have sN : Same H9 (upd H9 L2 (.lst (ps.map V.ref ++ [.ref t]))) → True := fun _ => trivial
          refine ⟨_, s9 _ _ eL8, small1000_2 (by rw [List.length_map, pl, List.length_take]; rw [hM.len] at hj; omega), (s8.trans s9).upd1 nL2, ps ++ [t], by rw [upd_same, List.map_append]; rfl, ?_⟩
          rw [List.take_add_one, zipK_get hx hm']
          have keep : ∀ (p : Addr) (xs : List V), p ≠ L2 → SqT K H8 p xs → SqT K (upd H9 L2 (.lst (ps.map V.ref ++ [.ref t]))) p xs := fun p xs hne h => by
            rcases h with (h | ⟨o, h⟩) | h
            · exact .inl (.inl (by rw [upd_ne hne]; exact s9 _ _ h))
            · exact .inl (.inr ⟨o, by rw [upd_ne hne]; exact s9 _ _ h⟩)
            · exact .inr h
          refine Paired.snoc (_root_.L2.Paired.mapP hp fun p kv h => ?_) ?_
          · by_cases hne : p = L2
            · subst hne
              rcases h with (h | ⟨o, h⟩) | h
              · rw [eL8] at h
                cases h
              · rw [eL8] at h
                cases h
              · exact .inr h
            · exact keep p _ hne h
          · exact SqT.of (by rw [upd_ne tL.symm]; exact e9)
        · rintro H8 ⟨s8, ps, eL8, hp⟩
          rw [List.take_of_length_le (by rw [zipK_len hM.len]; exact Nat.le_refl _)] at hp
          refine ⟨L2, ps, zipK ws ms, rfl, SqL.of eL8, hp, fun kn nk => ?_⟩
          have g8 := g7.same s8
          have e8 := s8 _ _ e7
          generalize hq : upd H8 kn _ = H9
          obtain ⟨G7, g9, sG7, s9, rk, nn⟩ := g8.laid nk hq
          clear hq
          have d7 := nn d dG6 (ne_of_none e8 nk)
          have e9 := s9 _ _ e8
          have hM7 := hM6.same sG7
          have r1 := sG7 _ _ r1
          have r2 := sG7 _ _ r2
          have r3 := sG7 _ _ r3
          have dvc := dvc.same sG7
          have hKn : Known G7 kn ms := ⟨_, rk, fun n' m' q => merge_val hM7 hnd [] n' m' q⟩
          clear g7 g8 e7 e8 s8 s9 nk nn sG7 hM6 dG6 ecl7 eL8 hp nL2 rk
          obtain ⟨m0, hm0⟩ : ∃ m0 : DM, m0 = ⟨n, ns.take i, (ns.drop i).take o, (ns.drop (i + o)).take st, cs, []⟩ := ⟨_, rfl⟩
          have nm0 : namesOf m0 = ns := by
            rw [hm0]
            show ns.take i ++ ((ns.drop i).take o ++ ((ns.drop (i + o)).take st ++ cs.map (·.1))) = ns
            rw [hcs, hlbs, cut4]
          have B0 : DMBase m0 := {
            nd := by rw [nm0]; exact nsN
            nm := by rw [nm0]; exact nsA
            name := by rw [hm0]; exact hn
            inl := by rw [hm0]; show (ns.take i).length ≤ 2; rw [List.length_take]; omega
            out0 := by rw [hm0]; show 1 ≤ ((ns.drop i).take o).length; rw [List.length_take, List.length_drop]; omega
            out := by rw [hm0]; show ((ns.drop i).take o).length ≤ 2; rw [List.length_take, List.length_drop]; omega
            sta0 := by rw [hm0]; show 1 ≤ ((ns.drop (i + o)).take st).length; rw [List.length_take, List.length_drop]; omega
            sta := by rw [hm0]; show ((ns.drop (i + o)).take st).length ≤ 2; rw [List.length_take, List.length_drop]; omega
            few := by rw [hm0]; exact lcs }
          have nsO : ∀ x ∈ ns, okS x = true := fun x hx => okS_name (nsS x hx)
          have D1 : Dv G7 (.ref A1) (strL m0.inl) := by
            rw [hm0]
            exact Dv.ofStrs r1 (fun x hx => nsO x (List.mem_of_mem_take hx)) (by rw [List.length_take]; omega)
          have D2 : Dv G7 (.ref A2) (strL m0.out) := by
            rw [hm0]
            exact Dv.ofStrs r2 (fun x hx => nsO x (List.mem_of_mem_drop (List.mem_of_mem_take hx))) (by rw [List.length_take, List.length_drop]; omega)
          have D3 : Dv G7 (.ref A3) (strL m0.sta) := by
            rw [hm0]
            exact Dv.ofStrs r3 (fun x hx => nsO x (List.mem_of_mem_drop (List.mem_of_mem_take hx))) (by rw [List.length_take, List.length_drop]; omega)
          have D5 : Dv G7 (.ref L) (.list (m0.calls.map callD)) := by
            rw [hm0]
            exact dvc
          have k5n : valV K5 (kS "name") = some (.str m0.name) := by rw [hm0]; exact k5n
          have hC0 : ∀ c ∈ m0.calls, ∃ m', findM ms c.2 = some m' := by rw [hm0]; exact hcm
          have n0 : m0.name = n := by rw [hm0]
          clear hm0 dvc hcs hlbs nm0
          refine ⟨_, rfl, _, rfl, _, rfl, b, d, kn, G7, m0, ms, rfl, g9.gh, g9.box, g9.gb, ⟨K5, A1, A2, A3, L, e9, k5n, k5i, k5o, k5s, k5c, D1.same g9.gh, D2.same g9.gh, D3.same g9.gh, D5.same g9.gh⟩, hKn.same g9.gh, hC0, B0, hB, fun G8 H10 pl ls gl ll lok dvl => ?_⟩
          have g10 := g9.trans gl
          have e10 := gl.bx d _ db e9
          have d10 := gl.new d _ e9 d7
          refine ⟨_, rfl, d, _, rfl, DPut.k (k := kS "links") e10 (Nat.lt_of_le_of_lt k5l (by decide)), ?_⟩
          have k6n := (vput_ne (kvs := K5) (v := .ref pl) (key_ne (x := "name") (y := "links") (by decide))).trans k5n
          have k6i := (vput_ne (kvs := K5) (v := .ref pl) (key_ne (x := "inlets") (y := "links") (by decide))).trans k5i
          have k6o := (vput_ne (kvs := K5) (v := .ref pl) (key_ne (x := "outlets") (y := "links") (by decide))).trans k5o
          have k6s := (vput_ne (kvs := K5) (v := .ref pl) (key_ne (x := "stations") (y := "links") (by decide))).trans k5s
          have k6c := (vput_ne (kvs := K5) (v := .ref pl) (key_ne (x := "calls") (y := "links") (by decide))).trans k5c
          have k6l := vput_same (kvs := K5) (k := kS "links") (v := .ref pl)
          generalize putK K5 (kS "links") (.ref pl) = K6 at k6n k6i k6o k6s k6c k6l ⊢
          have g11 := g10.change (o := .dK K6) nd0 d10 db
          have g12 := g11.freeze nd0 upd_same d10 db
          have sF : Same G7 (upd G8 d (.dK K6)) := gl.gs.trans (same_upd d10)
          refine ⟨_, rfl, kk _ _ (.ref d) { m0 with links := ls } g12 ⟨⟨B0.nd, B0.nm, B0.name, B0.inl, B0.out0, B0.out, B0.sta0, B0.sta, B0.few⟩, hC0, lok, ll⟩ n0 ⟨d, K6, A1, A2, A3, pl, L, rfl, upd_same, k6n, k6i, k6o, k6s, k6l, k6c, D1.same sF, D2.same sF, D3.same sF, dvl.same (same_upd d10), D5.same sF⟩⟩
end
end My

namespace My
open PySem PySem.Spec PyProof.Rows L2
local macro_rules | `(tactic| walk_at "side") => `(tactic| first | (dsimp only; omega) | exact ⟨by omega, by omega⟩ | exact Or.inl ⟨by omega, by omega⟩ | exact Or.inr ⟨by omega, by omega⟩ | decide)
local macro_rules | `(tactic| walk_at "sq") => `(tactic| first | assumption | exact SqL.of (by assumption) | exact SqT.of (by assumption) | (refine L2.Same.seq (by assumption) ?_; walk_at "sq") | (refine L2.Same.seqT (by assumption) ?_; walk_at "sq") | exact Or.inl (by walk_at "sq") | exact Or.inr (by walk_at "sq"))
local macro_rules | `(tactic| walk_at "1") => `(tactic| first
  | refine ⟨_, rfl, iteT ?_⟩
  | refine ⟨_, rfl, iteF ?_⟩
  | refine ⟨_, rfl, ?_⟩
  | refine ⟨_, _, rfl, rfl, (by walk_at "side"), ?_⟩
  | refine ⟨_, _, rfl, rfl, ?_⟩
  | refine ⟨_, _, _, _, true, rfl, .ty _, .base (.int _), kit_ty (a := "int") (by decide +kernel), ?_⟩
  | refine ⟨_, _, _, _, false, rfl, .ty _, .base (.int _), kit_ty (a := "int") (by decide +kernel), ?_⟩
  | refine ⟨_, _, rfl, (by walk_at "sq"), ?_⟩
  | refine ⟨_, _, _, _, rfl, rfl, (by walk_at "sq"), (by first | rfl | assumption), ?_⟩
  | refine Or.inl ⟨_, _, _, _, rfl, rfl, (by walk_at "sq"), (by first | rfl | assumption), ?_⟩
  | refine Or.inr (Or.inl ⟨_, _, _, _, rfl, rfl, (by walk_at "sq"), (by first | rfl | assumption), ?_⟩)
  | refine ⟨_, _, rfl, Or.inl ⟨(by walk_at "sq"), ?_⟩⟩
  | refine ⟨rfl, ?_⟩
  | refine iteT ?_
  | refine iteF ?_
  | refine ⟨_, _, _, _, _, rfl, (by assumption), (by assumption), (by assumption), (by assumption), ?_⟩
  | refine Or.inl ⟨_, rfl, ?_⟩
  | refine Or.inr ⟨_, rfl, ?_⟩
  | refine ⟨_, _, rfl, (by walk_at "side"), ?_⟩
  | refine ⟨_, _, rfl, ?_⟩)
local macro_rules | `(tactic| walk_at "fld") => `(tactic| skip)
local macro_rules | `(tactic| walk_at "s") => `(tactic| repeat walk_at "1")
local macro_rules | `(tactic| walk_at "size") => `(tactic| first | exact Nat.le_of_ble_eq_true rfl | (simp only [List.length_map, List.length_append, List.length_cons, List.length_nil]; omega))
local macro_rules | `(tactic| walk_at "new") => `(tactic| (first | refine ⟨(by walk_at "size"), fun p hp => ?_⟩ | refine fun p hp => ?_); (generalize hq : upd _ p _ = H1); (obtain ⟨s, e⟩ := new_facts hp hq); clear hq)
/-- modules each of which calls elder ones -/
inductive HouseOk : List DM → Prop
  | nil : HouseOk []
  | snoc {ms : List DM} {m : DM} (h : HouseOk ms) (o : DMOk ms m) (n : modNames[ms.length]? = some m.name) : HouseOk (ms ++ [m])
theorem HouseOk.base {ms : List DM} (h : HouseOk ms) : ∀ m ∈ ms, DMBase m := by
  induction h with
  | nil => exact fun m hm => nomatch hm
  | snoc h o n ih =>
    intro m hm
    rcases List.mem_append.mp hm with hm | hm
    · exact ih m hm
    · rw [List.mem_singleton.mp hm]
      exact o.base
theorem HouseOk.ok {ms : List DM} (h : HouseOk ms) : ∀ m ∈ ms, ∃ ms', (∀ m' ∈ ms', DMBase m') ∧ DMOk ms' m := by
  induction h with
  | nil => exact fun m hm => nomatch hm
  | snoc h o n ih =>
    intro m hm
    rcases List.mem_append.mp hm with hm | hm
    · exact ih m hm
    · rw [List.mem_singleton.mp hm]
      exact ⟨_, h.base, o⟩
theorem HouseOk.names {ms : List DM} (h : HouseOk ms) : ms.map (·.name) = modNames.take ms.length := by
  induction h with
  | nil => rfl
  | snoc h o n ih =>
    rw [List.map_append, ih, List.length_append, List.length_singleton, List.take_add_one, n]
    rfl
theorem HouseOk.nodup {ms : List DM} (h : HouseOk ms) : (ms.map (·.name)).Nodup := by
  rw [h.names]
  exact (List.take_sublist _ _).nodup (by decide)
def spHouse : Sp := fun vs H Q _ => ∃ (b : Addr) (many : Nat) (G : Hp), vs = [.ref b, .int many] ∧ many ≤ 3 ∧ Same G H ∧ BoxAt H b ∧ G b = none ∧
  ∀ (G' H' : Hp) (p : Addr) (ws : List V) (ms : List DM), Go b G H G' H' → G' p = some (.lst ws) → MAll G' ws ms → HouseOk ms → ms.length = many → Q (.ref p) H'
section
variable {P : Program} {w : World} {K : PySem.W.Frag} {mg : Str → Option Value} {base : Heap}
abbrev s_law_house : Stmt := topS 58
theorem sc_law_house : FnScope ["box", "many", "found", "at", "calls", "sizes"] ["box", "many"] (defScope s_law_house) := ⟨rfl, rfl, rfl, by decide +kernel, rfl, by decide +kernel, by decide +kernel⟩
set_option maxHeartbeats 16000000 in
theorem ok_house (D : Df K mg "_law_house" s_law_house ["box", "many"]) (T : Txt mg) (o_law_take : Own P w K mg base "_law_take" 1 ["box", "many"] spTake) (o_law_module : Own P w K mg base "_law_module" 4 ["box", "name", "sizes", "called"] spModule) : Own P w K mg base "_law_house" 5 ["box", "many"] spHouse := by
  refine D.own sc_law_house (fun vs H Q E h => ?_) (fun f cdv A outer s H vs Q E hr h => ?_)
  · obtain ⟨_, _, _, rfl, _⟩ := h
    rfl
  · obtain ⟨b, many, G, rfl, hm3, sG, hb, Gb, kk⟩ := h
    refine ⟨_, (pss_cons (ps_set (i := 2) sc_law_house.nd rfl (Or.inl rfl) (pe_lst pa_nil))
  (pss_cons (ps_for PassesOwn.never rfl (pi_range1 (by rfl) T.range (pa_cons (pv 1) pa_nil)) (pg_name (i := 3) sc_law_house.nd rfl (Or.inl rfl))
    (C8.pss_cut (ps_set (i := 4) sc_law_house.nd rfl (Or.inl rfl) (pe_ifExp (pt_cmpR op_gt (pv 3) pe_int (nomark _)) (pe_own o_law_take (hr.mono (by decide)) (pa_cons (pv 0) (pa_cons (pe_ifExp (pt_cmpR op_lt (pv 1) pe_int (nomark _)) pe_int pe_int) pa_nil))) pe_int))
      (pss_cons (ps_set (i := 5) sc_law_house.nd rfl (Or.inl rfl) (pe_tup (pa_cons (pe_own o_law_take (hr.mono (by decide)) (pa_cons (pv 0) (pa_cons pe_int pa_nil))) (pa_cons (pe_op op_add pe_int (pe_own o_law_take (hr.mono (by decide)) (pa_cons (pv 0) (pa_cons pe_int pa_nil)))) (pa_cons (pe_op op_add pe_int (pe_own o_law_take (hr.mono (by decide)) (pa_cons (pv 0) (pa_cons pe_int pa_nil)))) (pa_cons (pv 4) pa_nil))))))
      (pss_one (ps_expr (pe_bm PySem.F.plainAttrs_list PySem.F.slot_list_append PySem.F.type_list_append mt_append (pv 2) (pa_cons (pe_own o_law_module (hr.mono (by decide)) (pa_cons (pv 0) (pa_cons (pe_ix ix_list (pe_lst (pa_cons pe_str (pa_cons pe_str (pa_cons pe_str pa_nil)))) (pv 3) (fun _ _ => rfl)) (pa_cons (pv 5) (pa_cons (pv 2) pa_nil))))) pa_nil)))))))
  (pss_one (ps_ret (pv 2))))), ?_⟩
    refine ⟨Nat.zero_le _, fun F nF => ?_⟩
    generalize hq : upd H F _ = H1
    obtain ⟨s1, eF1⟩ := new_facts nF hq
    clear hq
    have Fb : F ≠ b := hb.ne nF
    have gF : G F = none := sG.free nF
    have g1 : Go b G H G H1 := (Go.refl sG hb Gb).same s1
    refine ⟨_, rfl, _, rfl, by omega, by omega, ?_⟩
    refine for_range (lo := 0) (n := many) (fun i σ' H' => ∃ (Gi : Hp) (ws : List V) (ms : List DM) (y3 y4 y5 : Option V), σ' = [some (.ref b), some (.int (many : Nat)), some (.ref F), y3, y4, y5] ∧ Go b G H Gi H' ∧ Gi F = none ∧ H' F = some (.lst ws) ∧ MAll Gi ws ms ∧ HouseOk ms ∧ ms.length = i) ?_ ?_ ?_
    · exact ⟨G, [], [], none, none, none, rfl, g1, gF, eF1, .nil, .nil, rfl⟩
    · rintro i σ' H' hi ⟨Gi, ws, ms, y3, y4, y5, rfl, gi, nFi, eF, hM, hO, hl⟩
      -- calls
      refine ⟨fun σ' H'' => ∃ c : Nat, σ' = [some (.ref b), some (.int (many : Nat)), some (.ref F), some (.int (i : Nat)), some (.int (c : Nat)), y5] ∧ c ≤ 2 ∧ (i = 0 → c = 0) ∧ Go b G H Gi H'' ∧ H'' F = some (.lst ws), ?_, ?_⟩
      · refine ⟨_, rfl, _, _, rfl, rfl, _, rfl, ?_⟩
        have e0 : some (V.int (0 + (i : Int))) = some (V.int (i : Nat)) := by rw [Int.zero_add]
        refine ite2 (fun c => ?_) (fun c => ?_)
        · have hi0 : i ≠ 0 := fun q => by
            subst q
            have := of_decide_eq_true c
            omega
          refine ⟨_, rfl, _, rfl, _, _, rfl, rfl, _, rfl, ?_⟩
          refine ite2 (fun c2 => ?_) (fun c2 => ?_)
          · refine ⟨b, 3, rfl, by decide, by decide, gi.box, fun H2 m hm bx box => ⟨m, ?_, by omega, fun q => absurd q hi0, gi.take bx box, bx _ _ Fb eF⟩⟩
            show [some (V.ref b), some (.int (many : Nat)), some (.ref F), some (V.int (0 + (i : Int))), some (.int (m : Nat)), y5] = _
            rw [e0]
          · refine ⟨b, 2, rfl, by decide, by decide, gi.box, fun H2 m hm bx box => ⟨m, ?_, by omega, fun q => absurd q hi0, gi.take bx box, bx _ _ Fb eF⟩⟩
            show [some (V.ref b), some (.int (many : Nat)), some (.ref F), some (V.int (0 + (i : Int))), some (.int (m : Nat)), y5] = _
            rw [e0]
        · refine ⟨0, ?_, by omega, fun _ => rfl, gi, eF⟩
          show [some (V.ref b), some (.int (many : Nat)), some (.ref F), some (V.int (0 + (i : Int))), some (.int 0), y5] = _
          rw [e0]
          rfl
      · rintro σ' H2 ⟨c, rfl, hc2, hc0, g2, eF2⟩
        clear gi eF
        refine ⟨_, rfl, b, 3, rfl, by decide, by decide, g2.box, fun H3 k1 hk1 bx3 box3 => ?_⟩
        have g3 := g2.take bx3 box3
        refine ⟨_, rfl, b, 2, rfl, by decide, by decide, g3.box, fun H4 k2 hk2 bx4 box4 => ?_⟩
        have g4 := g3.take bx4 box4
        refine ⟨_, _, rfl, rfl, ?_⟩
        have e1 : (fun (i j : Int) => V.int (i + j)) 1 (k2 : Int) = V.int ((1 + k2 : Nat) : Int) := congrArg V.int (by omega)
        rw [e1]
        refine ⟨_, rfl, b, 2, rfl, by decide, by decide, g4.box, fun H5 k3 hk3 bx5 box5 => ?_⟩
        have g5 := g4.take bx5 box5
        refine ⟨_, _, rfl, rfl, ?_⟩
        have e2 : (fun (i j : Int) => V.int (i + j)) 1 (k3 : Int) = V.int ((1 + k3 : Nat) : Int) := congrArg V.int (by omega)
        rw [e2]
        have eF5 := bx5 _ _ Fb (bx4 _ _ Fb (bx3 _ _ Fb eF2))
        refine ⟨_, rfl, Nat.le_of_ble_eq_true rfl, fun t nt => ?_⟩
        generalize hq : upd H5 t _ = H6
        obtain ⟨s6, et⟩ := new_facts nt hq
        clear hq
        have g6 := g5.same s6
        have eF6 := s6 _ _ eF5
        refine ⟨_, rfl, Or.inl ⟨rfl, _, SqL.of eF6⟩, _, rfl, Nat.le_of_ble_eq_true rfl, fun q nq => ?_⟩
        generalize hq : upd H6 q _ = H7
        obtain ⟨s7, eq⟩ := new_facts nq hq
        clear hq
        have g7 := g6.same s7
        have eF7 := s7 _ _ eF6
        obtain ⟨nm, hnm⟩ : ∃ nm, modNames[i]? = some nm := by
          match i, hi with
          | 0, _ => exact ⟨_, rfl⟩
          | 1, _ => exact ⟨_, rfl⟩
          | 2, _ => exact ⟨_, rfl⟩
          | _ + 3, hi => omega
        refine ⟨_, rfl, q, _, i, .str nm, rfl, rfl, SqL.of eq, atI_nat (show (modNames.map V.str)[i]? = some (.str nm) by rw [List.getElem?_map, hnm]; rfl), ?_⟩
        refine ⟨_, rfl, _, rfl, b, t, F, nm, Gi, k1, 1 + k2, 1 + k3, c, ws, ms, rfl, g7.gh, g7.box, g7.gb, s7 _ _ et, Fb, eF7, hM, by omega, by omega, by omega, by omega, by omega, hc2, fun q => hc0 (by rw [← hl, q]; rfl), by omega, hO.nodup, hO.base, List.mem_of_getElem? hnm, fun G8 H8 v m g8 hok hn hF => ?_⟩
        have g9 := g7.trans g8
        have eF8 := g8.bx _ _ Fb eF7
        have nF8 := g8.new _ _ eF7 nFi
        refine ⟨F, ws, v, rfl, rfl, eF8, small1000_2 (by rw [hM.len]; omega), ?_⟩
        exact ⟨G8, ws ++ [v], ms ++ [m], _, _, _, rfl, g9.change nF nF8 Fb, nF8, upd_same, (hM.same g8.gs).app (.cons hF .nil), .snoc hO hok (by rw [hl, hnm, hn]), by rw [List.length_append, hl]; rfl⟩
    · rintro σ' H' ⟨Gi, ws, ms, y3, y4, y5, rfl, gi, nFi, eF, hM, hO, hl⟩
      exact ⟨_, rfl, kk _ H' F ws ms (gi.freeze nF eF nFi Fb) upd_same (hM.same (same_upd nFi)) hO hl⟩
end
end My

namespace My
open PySem PySem.Spec PyProof.Rows L2
local macro_rules | `(tactic| walk_at "side") => `(tactic| first | (dsimp only; omega) | exact ⟨by omega, by omega⟩ | exact Or.inl ⟨by omega, by omega⟩ | exact Or.inr ⟨by omega, by omega⟩ | decide)
local macro_rules | `(tactic| walk_at "sq") => `(tactic| first | assumption | exact SqL.of (by assumption) | exact SqT.of (by assumption) | (refine L2.Same.seq (by assumption) ?_; walk_at "sq") | (refine L2.Same.seqT (by assumption) ?_; walk_at "sq") | exact Or.inl (by walk_at "sq") | exact Or.inr (by walk_at "sq"))
local macro_rules | `(tactic| walk_at "1") => `(tactic| first
  | refine ⟨_, rfl, iteT ?_⟩
  | refine ⟨_, rfl, iteF ?_⟩
  | refine ⟨_, rfl, ?_⟩
  | refine ⟨_, _, rfl, rfl, (by walk_at "side"), ?_⟩
  | refine ⟨_, _, rfl, rfl, ?_⟩
  | refine ⟨_, _, _, _, true, rfl, .ty _, .base (.int _), kit_ty (a := "int") (by decide +kernel), ?_⟩
  | refine ⟨_, _, _, _, false, rfl, .ty _, .base (.int _), kit_ty (a := "int") (by decide +kernel), ?_⟩
  | refine ⟨_, _, rfl, (by walk_at "sq"), ?_⟩
  | refine ⟨_, _, _, _, rfl, rfl, (by walk_at "sq"), (by first | rfl | assumption), ?_⟩
  | refine Or.inl ⟨_, _, _, _, rfl, rfl, (by walk_at "sq"), (by first | rfl | assumption), ?_⟩
  | refine Or.inr (Or.inl ⟨_, _, _, _, rfl, rfl, (by walk_at "sq"), (by first | rfl | assumption), ?_⟩)
  | refine ⟨_, _, rfl, Or.inl ⟨(by walk_at "sq"), ?_⟩⟩
  | refine ⟨rfl, ?_⟩
  | refine iteT ?_
  | refine iteF ?_
  | refine ⟨_, _, _, _, _, rfl, (by assumption), (by assumption), (by assumption), (by assumption), ?_⟩
  | refine Or.inl ⟨_, rfl, ?_⟩
  | refine Or.inr ⟨_, rfl, ?_⟩
  | refine ⟨_, _, rfl, (by walk_at "side"), ?_⟩
  | refine ⟨_, _, rfl, ?_⟩)
local macro_rules | `(tactic| walk_at "fld") => `(tactic| skip)
local macro_rules | `(tactic| walk_at "s") => `(tactic| repeat walk_at "1")
local macro_rules | `(tactic| walk_at "size") => `(tactic| first | exact Nat.le_of_ble_eq_true rfl | (simp only [List.length_map, List.length_append, List.length_cons, List.length_nil]; omega))
local macro_rules | `(tactic| walk_at "new") => `(tactic| (first | refine ⟨(by walk_at "size"), fun p hp => ?_⟩ | refine fun p hp => ?_); (generalize hq : upd _ p _ = H1); (obtain ⟨s, e⟩ := new_facts hp hq); clear hq)
/-! ## data that is made -/
/-- from (G, H) to (G', H') by what is made alone -/
structure Gr (G H G' H' : Hp) : Prop where
  gs : Same G G'
  hs : Same H H'
  gh : Same G' H'
  nn : ∀ c o, H c = some o → G c = none → G' c = none
section
variable {G H G1 H1 G2 H2 G0 H0 : Hp} {b p : Addr} {o : HO}
theorem Gr.refl (s : Same G H) : Gr G H G H := ⟨Same.refl _, Same.refl _, s, fun _ _ _ n => n⟩
theorem Gr.trans (x : Gr G H G1 H1) (y : Gr G1 H1 G2 H2) : Gr G H G2 H2 := ⟨x.gs.trans y.gs, x.hs.trans y.hs, y.gh, fun c o e n => y.nn c o (x.hs _ _ e) (x.nn c o e n)⟩
theorem Gr.lay (s : Same G H) (n : H p = none) : Gr G H (upd G p o) (upd H p o) := ⟨same_upd (s.free n), same_upd n, same_upd2 s n, fun c o' e q => by rw [upd_ne (ne_of_none e n)]; exact q⟩
theorem Gr.hold (s : Same G H) (n : H p = none) : Gr G H G (upd H p o) := ⟨Same.refl _, same_upd n, s.trans (same_upd n), fun c o' e q => q⟩
theorem Gr.same (s : Same G H) (t : Same H H1) : Gr G H G H1 := ⟨Same.refl _, t, s.trans t, fun c o' e q => q⟩
theorem Go.gr (g : Go b G0 H0 G H) (x : Gr G H G1 H1) : Go b G0 H0 G1 H1 := g.trans ⟨x.gs, x.gh, Bx.of x.hs, g.box.same x.hs, by
  obtain ⟨_, _, _, _, e⟩ := g.box
  exact x.nn _ _ e g.gb, x.nn⟩
end
def MkD (t : TE) (σ : L2.St) (G : Hp) (d : PyData) : Prop := ∀ (G1 H1 : Hp) (Q : VK), Same G G1 → Same G1 H1 → (∀ v G2 H2, Gr G1 H1 G2 H2 → Dv G2 v d → Q v H2) → t σ H1 Q
def MkA (t : TA) (σ : L2.St) (G : Hp) (ds : List PyData) : Prop := ∀ (G1 H1 : Hp) (Q : List V → Hp → Prop), Same G G1 → Same G1 H1 → (∀ vs G2 H2, Gr G1 H1 G2 H2 → DvAll G2 vs ds → Q vs H2) → t σ H1 Q
def MkL (t : TE) (σ : L2.St) (G : Hp) (ds : List PyData) : Prop := ∀ (G1 H1 : Hp) (Q : VK), Same G G1 → Same G1 H1 → (∀ p vs G2 H2, Gr G1 H1 G2 H2 → H1 p = none → G2 p = none → H2 p = some (.lst vs) → DvAll G2 vs ds → Q (.ref p) H2) → t σ H1 Q
theorem sz2000 {n : Nat} (h : n ≤ 4000) : n ≤ sizeLine := Nat.le_trans h (by decide)
section
variable {K : PySem.W.Frag} {σ : L2.St} {G : Hp} {d e : PyData} {ds es : List PyData} {ta tb te ti th : TE} {tr : TA} {v : V} {i n : Nat}
theorem MkD.mono {G' : Hp} (h : MkD ta σ G d) (s : Same G G') : MkD ta σ G' d := fun G1 H1 Q s1 s2 k => h G1 H1 Q (s.trans s1) s2 k
theorem MkA.mono {G' : Hp} {ta : TA} (h : MkA ta σ G ds) (s : Same G G') : MkA ta σ G' ds := fun G1 H1 Q s1 s2 k => h G1 H1 Q (s.trans s1) s2 k
theorem MkD.c (h : Dv G v d) : MkD (tC v) σ G d := fun G1 H1 Q s1 s2 k => k v G1 H1 (Gr.refl s2) (h.same s1)
theorem MkD.int (i : Int) : MkD (tC (.int i)) σ G (.int i) := .c (.int i)
theorem MkD.non : MkD (tC .non) σ G .none := .c .non
theorem MkD.bl (b : Bool) : MkD (tC (.bl b)) σ G (.bool b) := .c (.bl b)
theorem MkD.str {x : Str} (h : okS x = true) : MkD (tC (.str x)) σ G (.str x) := .c (.str h)
theorem MkD.var (hv : σ[i]? = some (some v)) (h : Dv G v d) : MkD (tVar i) σ G d := fun G1 H1 Q s1 s2 k => ⟨v, hv, k v G1 H1 (Gr.refl s2) (h.same s1)⟩
theorem MkA.nil : MkA tNil σ G [] := fun G1 H1 Q s1 s2 k => k [] G1 H1 (Gr.refl s2) .nil
theorem MkA.cons (h : MkD ta σ G d) (t : MkA tr σ G ds) : MkA (tCons ta tr) σ G (d :: ds) := fun G1 H1 Q s1 s2 k =>
  h G1 H1 _ s1 s2 fun x G2 H2 g2 dx => t G2 H2 _ (s1.trans g2.gs) g2.gh fun vs G3 H3 g3 dvs => k (x :: vs) G3 H3 (g2.trans g3) (.cons (dx.same g3.gs) dvs)
theorem MkD.tup (h : MkA tr σ G ds) (l : ds.length ≤ 2000) : MkD (tTup tr) σ G (.tuple ds) := fun G1 H1 Q s1 s2 k =>
  h G1 H1 _ s1 s2 fun vs G2 H2 g2 dvs => ⟨sz2000 (by rw [dvs.len]; omega), fun p np => k (.ref p) _ _ (g2.trans (Gr.lay g2.gh np)) (.tup upd_same (dvs.same (same_upd (g2.gh.free np))) l)⟩
theorem MkL.lst (h : MkA tr σ G ds) (l : ds.length ≤ 2000) : MkL (tLst tr) σ G ds := fun G1 H1 Q s1 s2 k =>
  h G1 H1 _ s1 s2 fun vs G2 H2 g2 dvs => ⟨sz2000 (by rw [dvs.len]; omega), fun p np => k p vs G2 _ (g2.trans (Gr.hold g2.gh np)) (g2.hs.free np) (g2.gh.free np) upd_same dvs⟩
theorem MkL.dat (h : MkL ta σ G ds) (l : ds.length ≤ 2000) : MkD ta σ G (.list ds) := fun G1 H1 Q s1 s2 k =>
  h G1 H1 _ s1 s2 fun p vs G2 H2 g2 n1 np e dvs => k (.ref p) (upd G2 p (.lst vs)) H2 ⟨g2.gs.trans (same_upd np), g2.hs, fun c o q => by
    by_cases w : c = p
    · rw [w, upd_same] at q
      rw [w, e]
      exact q
    · rw [upd_ne w] at q
      exact g2.gh _ _ q, fun c o q w => by
    rw [upd_ne (ne_of_none q n1)]
    exact g2.nn c o q w⟩ (.lst upd_same (dvs.same (same_upd np)) l)
theorem MkD.lst (h : MkA tr σ G ds) (l : ds.length ≤ 2000) : MkD (tLst tr) σ G (.list ds) := (MkL.lst h l).dat l
theorem MkL.cat (h : MkD ta σ G (.list ds)) (g : MkD tb σ G (.list es)) (l : ds.length + es.length ≤ 4000) : MkL (tOp rCat ta tb) σ G (ds ++ es) := fun G1 H1 Q s1 s2 k =>
  h G1 H1 _ s1 s2 fun x G2 H2 g2 dx => g G2 H2 _ (s1.trans g2.gs) g2.gh fun y G3 H3 g3 dy => by
    have dx := dx.same g3.gs
    cases dx with
    | @lst a xs _ e1 h1 _ =>
      cases dy with
      | @lst a2 ys _ e2 h2 _ =>
        exact ⟨a, a2, xs, ys, rfl, rfl, g3.gh _ _ e1, g3.gh _ _ e2, sz2000 (by rw [h1.len, h2.len]; exact l), fun p np => k p _ G3 _ ((g2.trans g3).trans (Gr.hold g3.gh np)) ((g2.hs.trans g3.hs).free np) (g3.gh.free np) upd_same (h1.app h2)⟩
theorem DvAll.take {H : Hp} : ∀ {xs : List V} {ds : List PyData}, DvAll H xs ds → ∀ n, DvAll H (xs.take n) (ds.take n)
  | _, [], h, n => by
    rw [h.inv0, List.take_nil, List.take_nil]
    exact .nil
  | _, d :: ds, h, 0 => .nil
  | _, d :: ds, h, n + 1 => by
    obtain ⟨x, ys, rfl, h1, h2⟩ := h.inv
    exact .cons h1 (DvAll.take h2 n)
theorem DvAll.drop {H : Hp} : ∀ {xs : List V} {ds : List PyData}, DvAll H xs ds → ∀ n, DvAll H (xs.drop n) (ds.drop n)
  | _, [], h, n => by
    rw [h.inv0, List.drop_nil, List.drop_nil]
    exact .nil
  | _, d :: ds, h, 0 => h
  | _, d :: ds, h, n + 1 => by
    obtain ⟨x, ys, rfl, h1, h2⟩ := h.inv
    exact DvAll.drop h2 n
theorem DvAll.at {H : Hp} : ∀ {xs : List V} {ds : List PyData}, DvAll H xs ds → ∀ {i : Nat} {d : PyData}, ds[i]? = some d → ∃ x, xs[i]? = some x ∧ Dv H x d
  | _, [], _, i, d, e => by cases i <;> cases e
  | _, d :: ds, h, 0, _, e => by
    obtain ⟨x, ys, rfl, h1, h2⟩ := h.inv
    cases e
    exact ⟨x, rfl, h1⟩
  | _, d :: ds, h, i + 1, _, e => by
    obtain ⟨x, ys, rfl, h1, h2⟩ := h.inv
    exact DvAll.at h2 (i := i) e
theorem MkL.slTo (h : MkD te σ G (.list ds)) (g : MkD th σ G (.int (n : Nat))) : MkL (tSl (rSlL K) te tNoPart (tPart th)) σ G (ds.take n) := fun G1 H1 Q s1 s2 k =>
  h G1 H1 _ s1 s2 fun x G2 H2 g2 dx => g G2 H2 _ (s1.trans g2.gs) g2.gh fun y G3 H3 g3 dy => by
    have dx := dx.same g3.gs
    cases dy
    cases dx with
    | @lst a xs _ e1 h1 _ =>
      refine ⟨_, rfl, a, xs, rfl, SqL.of (g3.gh _ _ e1), fun p np => ?_⟩
      rw [cut_to]
      exact k p _ G3 _ ((g2.trans g3).trans (Gr.hold g3.gh np)) ((g2.hs.trans g3.hs).free np) (g3.gh.free np) upd_same (h1.take n)
theorem MkL.slFrom (h : MkD te σ G (.list ds)) (g : MkD th σ G (.int (n : Nat))) : MkL (tSl (rSlL K) te (tPart th) tNoPart) σ G (ds.drop n) := fun G1 H1 Q s1 s2 k =>
  h G1 H1 _ s1 s2 fun x G2 H2 g2 dx => g G2 H2 _ (s1.trans g2.gs) g2.gh fun y G3 H3 g3 dy => by
    have dx := dx.same g3.gs
    cases dy
    cases dx with
    | @lst a xs _ e1 h1 _ =>
      refine ⟨_, rfl, a, xs, rfl, SqL.of (g3.gh _ _ e1), fun p np => ?_⟩
      rw [cut_from]
      exact k p _ G3 _ ((g2.trans g3).trans (Gr.hold g3.gh np)) ((g2.hs.trans g3.hs).free np) (g3.gh.free np) upd_same (h1.drop n)
theorem MkD.ix (h : MkD te σ G (.list ds)) (g : MkD ti σ G (.int (n : Nat))) (e : ds[n]? = some d) : MkD (tOp (rIxL K) te ti) σ G d := fun G1 H1 Q s1 s2 k =>
  h G1 H1 _ s1 s2 fun x G2 H2 g2 dx => g G2 H2 _ (s1.trans g2.gs) g2.gh fun y G3 H3 g3 dy => by
    have dx := dx.same g3.gs
    cases dy
    cases dx with
    | @lst a xs _ e1 h1 _ =>
      obtain ⟨z, hz, dz⟩ := h1.at e
      exact ⟨a, xs, _, z, rfl, rfl, SqL.of (g3.gh _ _ e1), atI_nat hz, k z G3 H3 (g2.trans g3) dz⟩
theorem MkD.ixT (h : MkD te σ G (.tuple ds)) (g : MkD ti σ G (.int (n : Nat))) (e : ds[n]? = some d) : MkD (tOp (rIxT K) te ti) σ G d := fun G1 H1 Q s1 s2 k =>
  h G1 H1 _ s1 s2 fun x G2 H2 g2 dx => g G2 H2 _ (s1.trans g2.gs) g2.gh fun y G3 H3 g3 dy => by
    have dx := dx.same g3.gs
    cases dy
    cases dx with
    | @tup a xs _ e1 h1 _ =>
      obtain ⟨z, hz, dz⟩ := h1.at e
      exact ⟨a, xs, _, z, rfl, rfl, SqT.of (g3.gh _ _ e1), atI_nat hz, k z G3 H3 (g2.trans g3) dz⟩
/-- a if xs != [] else b -/
theorem MkD.ifNe (h : MkD ti σ G (.list es)) (y : es ≠ [] → MkD ta σ G d) (n : es = [] → MkD tb σ G d) : MkD (tIf (tTest (tOp (rNeN K) ti (tLst tNil))) ta tb) σ G d := fun G1 H1 Q s1 s2 k =>
  h G1 H1 _ s1 s2 fun x G2 H2 g2 dx => by
    cases dx with
    | @lst a xs _ e1 h1 _ =>
      refine ⟨Nat.zero_le _, fun p np => ⟨a, p, xs, rfl, rfl, SqL.of (same_upd np _ _ (g2.gh _ _ e1)), SqL.of upd_same, _, rfl, ?_⟩⟩
      have g3 := g2.trans (Gr.hold (o := .lst []) g2.gh np)
      cases es with
      | nil =>
        rw [h1.inv0]
        exact n rfl _ _ _ (s1.trans g2.gs) g3.gh fun v G4 H4 g4 dv => k v G4 H4 (g3.trans g4) dv
      | cons e0 es =>
        obtain ⟨z, zs, rfl, _, _⟩ := h1.inv
        exact y (by simp) _ _ _ (s1.trans g2.gs) g3.gh fun v G4 H4 g4 dv => k v G4 H4 (g3.trans g4) dv
theorem MkD.neg {i : Int} (h : MkD ta σ G (.int i)) : MkD (tUn (rU fun i => .int (-i)) ta) σ G (.int (-i)) := fun G1 H1 Q s1 s2 k =>
  h G1 H1 _ s1 s2 fun x G2 H2 g2 dx => by
    cases dx
    exact ⟨i, rfl, k _ G2 H2 g2 (.int _)⟩
theorem MkD.add {i j : Int} (h : MkD ta σ G (.int i)) (g : MkD tb σ G (.int j)) : MkD (tOp (rI0 fun i j => .int (i + j)) ta tb) σ G (.int (i + j)) := fun G1 H1 Q s1 s2 k =>
  h G1 H1 _ s1 s2 fun x G2 H2 g2 dx => g G2 H2 _ (s1.trans g2.gs) g2.gh fun y G3 H3 g3 dy => by
    cases dx
    cases dy
    exact ⟨i, j, rfl, rfl, k _ G3 H3 (g2.trans g3) (.int _)⟩
theorem MkD.sadd {x y : Str} (h : MkD ta σ G (.str x)) (g : MkD tb σ G (.str y)) (o : okS (x ++ y) = true) (l : x.length + y.length ≤ 4000) : MkD (tOp rCatS ta tb) σ G (.str (x ++ y)) := fun G1 H1 Q s1 s2 k =>
  h G1 H1 _ s1 s2 fun u G2 H2 g2 dx => g G2 H2 _ (s1.trans g2.gs) g2.gh fun w G3 H3 g3 dy => by
    cases dx
    cases dy
    exact ⟨x, y, rfl, rfl, sz2000 l, k _ G3 H3 (g2.trans g3) (.str o)⟩
/-- a if i > j else b -/
theorem MkD.ifGt {i j : Int} (h : MkD ti σ G (.int i)) (g : MkD th σ G (.int j)) (y : j < i → MkD ta σ G d) (n : ¬ j < i → MkD tb σ G d) : MkD (tIf (tTest (tOp (rI0 fun i j => .bl (decide (j < i))) ti th)) ta tb) σ G d := fun G1 H1 Q s1 s2 k =>
  h G1 H1 _ s1 s2 fun u G2 H2 g2 dx => g G2 H2 _ (s1.trans g2.gs) g2.gh fun w G3 H3 g3 dy => by
    cases dx
    cases dy
    have g3' := g2.trans g3
    refine ⟨i, j, rfl, rfl, _, rfl, ?_⟩
    by_cases q : j < i
    · rw [decide_eq_true q]
      exact y q _ _ _ (s1.trans g3'.gs) g3'.gh fun v G4 H4 g4 dv => k v G4 H4 (g3'.trans g4) dv
    · rw [decide_eq_false q]
      exact n q _ _ _ (s1.trans g3'.gs) g3'.gh fun v G4 H4 g4 dv => k v G4 H4 (g3'.trans g4) dv
/-- [e for x in xs], xs a list of data -/
theorem MkL.lc {j : Nat} {vs : List Nat} (f : PyData → PyData) (h : MkD te σ G (.list ds)) (hw2 : ∀ x, wipe ((wipe σ vs).set j (some x)) vs = wipe σ vs)
    (go : ∀ (G' : Hp) (x : V) (d : PyData), Same G G' → d ∈ ds → Dv G' x d → MkD ta ((wipe σ vs).set j (some x)) G' (f d)) (l : ds.length ≤ 2000) : MkL (tLc (iList K te) (gName j) tYes ta vs) σ G (ds.map f) := fun G1 H1 Q s1 s2 k =>
  h G1 H1 _ s1 s2 fun x G2 H2 g2 dx => by
    cases dx with
    | @lst a xs _ e1 h1 _ =>
      refine ⟨a, rfl, ⟨_, SqL.of (g2.gh _ _ e1)⟩, fun D nD => ?_⟩
      refine lc_seq (H0 := G2) (seqIt_l (SqL.of e1)) (fun i H3 => ∃ (G3 : Hp) (ys : List V), Gr G2 (upd H2 D (.lst [])) G3 (upd H3 D (.lst [])) ∧ Same G3 H3 ∧ G3 D = none ∧ H3 D = some (.lst ys) ∧ DvAll G3 ys ((ds.take i).map f)) ?_ ?_ ?_ ?_
      · exact ⟨G2, [], by rw [upd_upd]; exact Gr.refl (g2.gh.trans (same_upd nD)), g2.gh.trans (same_upd nD), g2.gh.free nD, upd_same, .nil⟩
      · rintro i H3 ⟨G3, ys, g3, s3, _⟩
        exact g3.gs.trans s3
      · rintro i y H3 hy ⟨G3, ys, g3, s3, n3, e3, d3⟩
        obtain ⟨dd, hdd, hyd⟩ := h1.get hy
        have hi : i < ds.length := (List.getElem?_eq_some_iff.mp hdd).1
        refine ⟨hw2 y, go G3 y dd ((s1.trans g2.gs).trans g3.gs) (List.mem_of_getElem? hdd) (hyd.same g3.gs) G3 H3 _ (Same.refl _) s3 fun z G4 H4 g4 dz => ?_⟩
        have n4 := g4.nn _ _ e3 n3
        refine ⟨ys, g4.hs _ _ e3, small1000_2 (by rw [d3.len, List.length_map, List.length_take]; omega), G4, ys ++ [z], ?_, ?_, n4, upd_same, ?_⟩
        · rw [upd_upd]
          refine g3.trans ⟨g4.gs, ?_, ?_, ?_⟩
          · intro c o e
            by_cases w : c = D
            · rw [w, upd_same] at e ⊢
              exact e
            · rw [upd_ne w] at e ⊢
              exact g4.hs _ _ e
          · intro c o e
            rw [upd_ne (ne_of_none e n4)]
            exact g4.gh _ _ e
          · intro c o e q
            by_cases w : c = D
            · rw [w]
              exact n4
            · rw [upd_ne w] at e
              exact g4.nn c o e q
        · intro c o e
          rw [upd_ne (ne_of_none e n4)]
          exact g4.gh _ _ e
        · rw [List.take_add_one, hdd, List.map_append]
          exact (d3.same g4.gs).app (.cons dz .nil)
      · rintro H3 ⟨G3, ys, g3, s3, n3, e3, d3⟩
        rw [h1.len, List.take_length] at d3
        refine k D ys G3 H3 (g2.trans ⟨g3.gs, ?_, s3, ?_⟩) (g2.hs.free nD) n3 e3 d3
        · intro c o e
          have w : c ≠ D := ne_of_none e nD
          have := g3.hs c o (by rw [upd_ne w]; exact e)
          rw [upd_ne w] at this
          exact this
        · intro c o e q
          exact g3.nn c o (by rw [upd_ne (ne_of_none e nD)]; exact e) q
/-- [e for x in xs], xs a tuple of data -/
theorem MkL.lcT {j : Nat} {vs : List Nat} (f : PyData → PyData) (h : MkD te σ G (.tuple ds)) (hw2 : ∀ x, wipe ((wipe σ vs).set j (some x)) vs = wipe σ vs)
    (go : ∀ (G' : Hp) (x : V) (d : PyData), Same G G' → d ∈ ds → Dv G' x d → MkD ta ((wipe σ vs).set j (some x)) G' (f d)) (l : ds.length ≤ 2000) : MkL (tLc (iTup K te) (gName j) tYes ta vs) σ G (ds.map f) := fun G1 H1 Q s1 s2 k =>
  h G1 H1 _ s1 s2 fun x G2 H2 g2 dx => by
    cases dx with
    | @tup a xs _ e1 h1 _ =>
      refine ⟨a, rfl, ⟨_, SqT.of (g2.gh _ _ e1)⟩, fun D nD => ?_⟩
      refine lc_seq (H0 := G2) (seqIt_t (SqT.of e1)) (fun i H3 => ∃ (G3 : Hp) (ys : List V), Gr G2 (upd H2 D (.lst [])) G3 (upd H3 D (.lst [])) ∧ Same G3 H3 ∧ G3 D = none ∧ H3 D = some (.lst ys) ∧ DvAll G3 ys ((ds.take i).map f)) ?_ ?_ ?_ ?_
      · exact ⟨G2, [], by rw [upd_upd]; exact Gr.refl (g2.gh.trans (same_upd nD)), g2.gh.trans (same_upd nD), g2.gh.free nD, upd_same, .nil⟩
      · rintro i H3 ⟨G3, ys, g3, s3, _⟩
        exact g3.gs.trans s3
      · rintro i y H3 hy ⟨G3, ys, g3, s3, n3, e3, d3⟩
        obtain ⟨dd, hdd, hyd⟩ := h1.get hy
        have hi : i < ds.length := (List.getElem?_eq_some_iff.mp hdd).1
        refine ⟨hw2 y, go G3 y dd ((s1.trans g2.gs).trans g3.gs) (List.mem_of_getElem? hdd) (hyd.same g3.gs) G3 H3 _ (Same.refl _) s3 fun z G4 H4 g4 dz => ?_⟩
        have n4 := g4.nn _ _ e3 n3
        refine ⟨ys, g4.hs _ _ e3, small1000_2 (by rw [d3.len, List.length_map, List.length_take]; omega), G4, ys ++ [z], ?_, ?_, n4, upd_same, ?_⟩
        · rw [upd_upd]
          refine g3.trans ⟨g4.gs, ?_, ?_, ?_⟩
          · intro c o e
            by_cases w : c = D
            · rw [w, upd_same] at e ⊢
              exact e
            · rw [upd_ne w] at e ⊢
              exact g4.hs _ _ e
          · intro c o e
            rw [upd_ne (ne_of_none e n4)]
            exact g4.gh _ _ e
          · intro c o e q
            by_cases w : c = D
            · rw [w]
              exact n4
            · rw [upd_ne w] at e
              exact g4.nn c o e q
        · intro c o e
          rw [upd_ne (ne_of_none e n4)]
          exact g4.gh _ _ e
        · rw [List.take_add_one, hdd, List.map_append]
          exact (d3.same g4.gs).app (.cons dz .nil)
      · rintro H3 ⟨G3, ys, g3, s3, n3, e3, d3⟩
        rw [h1.len, List.take_length] at d3
        refine k D ys G3 H3 (g2.trans ⟨g3.gs, ?_, s3, ?_⟩) (g2.hs.free nD) n3 e3 d3
        · intro c o e
          have w : c ≠ D := ne_of_none e nD
          have := g3.hs c o (by rw [upd_ne w]; exact e)
          rw [upd_ne w] at this
          exact this
        · intro c o e q
          exact g3.nn c o (by rw [upd_ne (ne_of_none e nD)]; exact e) q
/-- a statement x = e -/
theorem st_set {te : TE} {σ : L2.St} {H : Hp} {D : Ends} {i : Nat} {u : TS} (h : te σ H fun x H1 => u D (σ.set i (some x)) H1) : tSeq (tAsg te (gName i)) u D σ H := h
theorem st_ret {te : TE} {σ : L2.St} {H : Hp} {D : Ends} (h : te σ H D.rt) : tRet te D σ H := h
theorem st_drop {te : TE} {σ : L2.St} {H : Hp} {D : Ends} (h : te σ H fun _ H1 => D.nx σ H1) : tDrop te D σ H := h
theorem st_seq {t u : TS} {σ : L2.St} {H : Hp} {D : Ends} (h : t { D with nx := u D } σ H) : tSeq t u D σ H := h
theorem st_op {r : R2} {ta tb : TE} {σ : L2.St} {H : Hp} {Q : VK} (h : ta σ H fun x H1 => tb σ H1 fun y H2 => r x y H2 Q) : tOp r ta tb σ H Q := h
theorem st_bm {K : PySem.W.Frag} {T : String} {r : V → List V → Hp → VK → Prop} {to : TE} {t : TA} {σ : L2.St} {H : Hp} {Q : VK} (h : to σ H fun x H1 => tyV K T x H1 ∧ t σ H1 fun xs H2 => r x xs H2 Q) : tBM K T r to t σ H Q := h
theorem st_set1 {te : TE} {σ : L2.St} {H : Hp} {D : Ends} {i : Nat} (h : te σ H fun x H1 => D.nx (σ.set i (some x)) H1) : tAsg te (gName i) D σ H := h
end
end My

/-! a, *b = a list of texts (or any list) -/
namespace MyT
open PySem PySem.Spec PyProof.Rows
section
variable {prog : Program} {w : World} {A : Around} {E : Value → Shared → Prop} {s : Shared}
theorem unpack_star1 {l : Addr} {items : Array Value} {x : Value} {rest : List Value} {Q : List Value → Shared → Prop} (hl : s.heap.IsList l items) (hh : A.handled = none) (he : items.toList = x :: rest) (hz : items.size ≤ sizeLine)
    (hQ : ∀ (h' : Heap) (tk : Nat), (∀ b o, s.heap.get? b = some o → h'.get? b = some o) → Q [x, .ref h'.objs.size] { s with heap := h'.push { cls := .type "list", data := .seq rest.toArray }, toks := tk }) : wpAny (model prog w) A (unpackItems (.ref l) 2 (some 1)) Q E s := by
  have hsz : 1 ≤ items.size := by rw [← Array.length_toList, he]; simp
  obtain ⟨o, ho, hc⟩ := id hl
  have hll : l < s.heap.objs.size := Heap.lt_size ho
  have hne : l ≠ s.heap.objs.size := Nat.ne_of_lt hll
  unfold unpackItems notIterableAtAll
  refine wpAny_bind (wpAny_bind (wpAny_specialOf hl.typeIs PySem.F.slot_list_iter.lookup ?_))
  refine wpAny_pure ?_
  simp only [Option.isSome_some, if_true, Bool.false_eq_true, if_false]
  refine wpAny_bind (wpAny_holding (wpAny_pyIter_list hl ?_))
  refine wpAny_bind (wpAny_holding (PySem.W.kun_draw hne 1 0 _ _ ⟨_, Heap.get?_push_size _ rfl, rfl, rfl⟩ (hl.push _) (by omega) fun h1 it1 sb => ?_))
  have hl1 : h1.IsList l items := (hl.push _).extBut sb.extBut hne
  obtain ⟨ol, hol, _⟩ := id hl1
  obtain ⟨oi, hoi, _⟩ := id it1
  rw [show List.take 1 (List.drop 0 items.toList) = [x] by rw [he]; rfl]
  rw [if_neg (by simp)]
  refine wpAny_bind (wpAny_holding (PySem.W.kun_collect (s := { s with heap := h1 }) (T := "list_iterator") (.inr (.inr (.inl rfl))) (Walks.list (A := A.in1) hh s.heap.objs.size l hne items) (fun j u st => st.1.typeIs) (k := 1) hsz ⟨it1, hl1⟩ (Heap.lt_size hoi) (Heap.lt_size hol) (fun h2 tk hk => ?_) hz))
  rw [show List.drop 1 items.toList = rest by rw [he]; rfl]
  rw [if_neg (by simp)]
  refine wpAny_bind (wpAny_newList ?_ (by
    have : items.size = rest.length + 1 := by rw [← Array.length_toList, he]; rfl
    rw [List.length_take]
    omega))
  refine wpAny_pure ?_
  have := hQ h2 tk fun b o e => hk b o (Nat.ne_of_lt (Heap.lt_size e)) (sb.extBut b o (Nat.ne_of_lt (Heap.lt_size e)) (Heap.get?_push_of_some _ e))
  have e1 : List.take (rest.length - (2 - 1 - 1)) rest = rest := by simp
  have e2 : List.drop (rest.length - (2 - 1 - 1)) rest = [] := by simp
  dsimp only
  rw [e1, e2]
  exact this
end
end MyT
namespace My
open PySem PySem.Spec PyProof.Rows L2
section
variable {X : Cx} {pos : Pos}
/-- (a, *b) = a list -/
def gStar1 (K : PySem.W.Frag) (t : TGs) : TG := fun v σ H Q => ∃ a x xs, v = .ref a ∧ SqL K H a (x :: xs) ∧ ∀ p, H p = none → t [x, .ref p] σ (upd H p (.lst xs)) Q
theorem pg_star1 {e1 e2 : Expr} {p2 : Pos} {k : Nat} {t : TGs} (hc : X.calm = true) (h : PGs X [e1, e2] t)
    (hn : (assignEach [e1, .Starred e2 p2] X.env).length = 2 := by rfl) (hst : (assignEach [e1, .Starred e2 p2] X.env).findIdx? (·.1) = some 1 := by rfl)
    (hs : (assignEach [e1, .Starred e2 p2] X.env).map (·.2) = (assignEach [e1, e2] X.env).map (·.2) := by rfl) : PG X (.Tuple [e1, .Starred e2 p2] k pos) (gStar1 X.K t) := by
  refine ⟨fun pins s σ H v u Q I r hw => ?_⟩
  obtain ⟨a, x, xs, e0, hq, hw⟩ := hw
  subst e0
  cases r
  obtain ⟨its, rv, pl, hz⟩ := I.list hq
  have hl' : s.heap.IsList a its.toArray := by
    obtain ⟨o, m, e, c, d, q⟩ := pl
    exact ⟨o, e, c, m, q⟩
  cases rv with
  | @cons _ u _ us r0 rr =>
    have lu : xs.length = us.length := rr.length
    rw [PyProof.Rows.assign_Tuple]
    refine wpAny_bind (wpAny_standAt ?_)
    unfold unpack
    rw [hn, hst, hs]
    have hz' : us.length + 1 ≤ sizeLine := by simpa [lu] using hz
    refine wpAny_bind (wpAny_holding (MyT.unpack_star1 (x := u) (rest := us) hl' (I.ok.hd hc) (by simp) (by simpa using hz') fun h' tk hk => ?_))
    have I1 : Inv X pins σ H { s with heap := h', toks := tk } := I.kept hk
    have hf : H h'.objs.size = none := I1.hok.fresh (Nat.le_refl _)
    have I2 : Inv X pins σ (upd H h'.objs.size (.lst xs)) { s with heap := h'.push { cls := .type "list", data := .seq us.toArray }, toks := tk } :=
      I1.laid (fun b o e => Heap.get?_push_of_some _ e) (Nat.le_refl _) ⟨by rw [lu]; omega, us, 0, rr, Heap.get?_push_size _ rfl⟩
    exact h.run pins _ σ _ [x, .ref h'.objs.size] _ Q I2 (.cons r0 (.cons rfl .nil)) (hw _ hf)
end
end My

namespace My
open PySem PySem.Spec PyProof.Rows L2
local macro_rules | `(tactic| walk_at "side") => `(tactic| first | (dsimp only; omega) | exact ⟨by omega, by omega⟩ | exact Or.inl ⟨by omega, by omega⟩ | exact Or.inr ⟨by omega, by omega⟩ | decide)
local macro_rules | `(tactic| walk_at "sq") => `(tactic| first | assumption | exact SqL.of (by assumption) | exact SqT.of (by assumption) | (refine L2.Same.seq (by assumption) ?_; walk_at "sq") | (refine L2.Same.seqT (by assumption) ?_; walk_at "sq") | exact Or.inl (by walk_at "sq") | exact Or.inr (by walk_at "sq"))
local macro_rules | `(tactic| walk_at "1") => `(tactic| first
  | refine ⟨_, rfl, iteT ?_⟩
  | refine ⟨_, rfl, iteF ?_⟩
  | refine ⟨_, rfl, ?_⟩
  | refine ⟨_, _, rfl, rfl, (by walk_at "side"), ?_⟩
  | refine ⟨_, _, rfl, rfl, ?_⟩
  | refine ⟨_, _, _, _, true, rfl, .ty _, .base (.int _), kit_ty (a := "int") (by decide +kernel), ?_⟩
  | refine ⟨_, _, _, _, false, rfl, .ty _, .base (.int _), kit_ty (a := "int") (by decide +kernel), ?_⟩
  | refine ⟨_, _, rfl, (by walk_at "sq"), ?_⟩
  | refine ⟨_, _, _, _, rfl, rfl, (by walk_at "sq"), (by first | rfl | assumption), ?_⟩
  | refine Or.inl ⟨_, _, _, _, rfl, rfl, (by walk_at "sq"), (by first | rfl | assumption), ?_⟩
  | refine Or.inr (Or.inl ⟨_, _, _, _, rfl, rfl, (by walk_at "sq"), (by first | rfl | assumption), ?_⟩)
  | refine ⟨_, _, rfl, Or.inl ⟨(by walk_at "sq"), ?_⟩⟩
  | refine ⟨rfl, ?_⟩
  | refine iteT ?_
  | refine iteF ?_
  | refine ⟨_, _, _, _, _, rfl, (by assumption), (by assumption), (by assumption), (by assumption), ?_⟩
  | refine Or.inl ⟨_, rfl, ?_⟩
  | refine Or.inr ⟨_, rfl, ?_⟩
  | refine ⟨_, _, rfl, (by walk_at "side"), ?_⟩
  | refine ⟨_, _, rfl, ?_⟩)
local macro_rules | `(tactic| walk_at "fld") => `(tactic| skip)
local macro_rules | `(tactic| walk_at "s") => `(tactic| repeat walk_at "1")
local macro_rules | `(tactic| walk_at "size") => `(tactic| first | exact Nat.le_of_ble_eq_true rfl | (simp only [List.length_map, List.length_append, List.length_cons, List.length_nil]; omega))
local macro_rules | `(tactic| walk_at "new") => `(tactic| (first | refine ⟨(by walk_at "size"), fun p hp => ?_⟩ | refine fun p hp => ?_); (generalize hq : upd _ p _ = H1); (obtain ⟨s, e⟩ := new_facts hp hq); clear hq)
local macro_rules | `(tactic| walk_at "1") => `(tactic| refine And.intro (by assumption) ?_)

/-- a digit's code -/
def dig (c : Nat) : Bool := decide (48 ≤ c) && decide (c ≤ 57)
/-- whether these signs are a number's without leading zeros, most at most -/
def numL2 (most : Nat) (cs : List Nat) : Bool := decide (1 ≤ cs.length) && decide (cs.length ≤ most) && !(decide (cs.head? = some 48) && decide (1 < cs.length)) && cs.all dig
theorem digits_mem (c : Nat) : decide (c ∈ (("0123456789" : Str)).cps.toList) = dig c := by
  have e : (("0123456789" : Str)).cps.toList = [48, 49, 50, 51, 52, 53, 54, 55, 56, 57] := by decide
  rw [e]
  unfold dig
  by_cases h : 48 ≤ c ∧ c ≤ 57
  · rw [decide_eq_true h.1, decide_eq_true h.2]
    refine decide_eq_true ?_
    simp only [List.mem_cons, List.not_mem_nil, or_false]
    omega
  · rw [decide_eq_false (fun q => h (by
      simp only [List.mem_cons, List.not_mem_nil, or_false] at q
      omega))]
    by_cases h1 : 48 ≤ c
    · rw [decide_eq_true h1, decide_eq_false (fun q => h ⟨h1, q⟩)]
      rfl
    · rw [decide_eq_false h1]
      rfl
theorem sign_eq (c d : Nat) : decide (V.str ⟨#[c]⟩ = V.str ⟨#[d]⟩) = decide (c = d) := by
  by_cases e : c = d
  · subst e
    rw [decide_eq_true rfl, decide_eq_true rfl]
  · rw [decide_eq_false e]
    refine decide_eq_false fun q => e ?_
    have := V.str.inj q
    injection this with h
    have := congrArg Array.toList h
    simpa using this
theorem str_0 : (("0" : Str)) = ⟨#[48]⟩ := by decide
theorem str_m : (("-" : Str)) = ⟨#[45]⟩ := by decide
section
variable {P : Program} {w : World} {K : PySem.W.Frag} {mg : Str → Option Value} {base : Heap}
abbrev s_is_number_word : Stmt := topS 20
theorem sc_is_number_word : FnScope ["word", "most", "letter"] ["word", "most"] (defScope s_is_number_word) := ⟨rfl, rfl, rfl, by decide +kernel, rfl, by decide +kernel, by decide +kernel⟩
def spNumWord : Sp := fun vs H Q _ => ∃ (x : Str) (n : Nat), vs = [.str x, .int n] ∧ x.length ≤ 10000 ∧ ∀ H', Same H H' → Q (.bl (numL2 n x.cps.toList)) H'
theorem ok_is_number_word (D : Df K mg "is_number_word" s_is_number_word ["word", "most"]) (T : Txt mg) (gD : ∃ t, mg "DIGITS" = some (.str "0123456789" t)) : Own P w K mg base "is_number_word" 1 ["word", "most"] spNumWord := by
  obtain ⟨tD, gD⟩ := gD
  refine D.own sc_is_number_word (fun vs H Q E h => ?_) (fun fa cdv A outer s H vs Q E hr h => ?_)
  · obtain ⟨_, _, rfl, _⟩ := h
    rfl
  · obtain ⟨x, n, rfl, hl, k⟩ := h
    have h10 : 10000 ≤ sizeLine := by decide
    refine ⟨_, (C8.pss_cut (ps_if (PW.pt (pw_or (pt_not (pt_chain op_le op_le pe_int (pe_callB call_len_str (by rfl) T.len PySem.boot_len (pa_cons (pv 0) pa_nil)) (pv 1))) (pw_or1 (PW.pt (pw_and (pt_cmpR op_eq (pe_ix ix_str (pv 0) pe_int (fun _ _ => rfl)) pe_str (nomark _)) (pw_and1 (pt_cmpR op_gt (pe_callB call_len_str (by rfl) T.len PySem.boot_len (pa_cons (pv 0) pa_nil)) pe_int (nomark _))))))))
    (pss_one (ps_ret pe_bl))
    pss_nil)
  (pss_one (ps_ret (pe_callB (cr_all rfl) (by rfl) T.all (by decide +kernel) (pa_cons (pe_lc (own := [("letter", 2)]) (g := gName 2) (tt := tYes) rfl sc_is_number_word.nd (pi_str (pv 0)) (blkOk_by (own := [("letter", 2)]) (N := ["word", "most", "letter"]) (sc := defScope s_is_number_word) (by decide +kernel)) (fun _ _ _ _ _ => (pg_name (i := 2) sc_is_number_word.nd rfl (Or.inl rfl))) (fun _ _ _ _ _ => pts_nil) (fun _ _ _ _ _ => (pe_cmpR op_in_sign (pv 2) (pe_glob (v := .str "0123456789") rfl gD ⟨tD, rfl⟩) (by rfl)))) pa_nil))))), ?_⟩
    have hle : x.length ≤ sizeLine := by omega
    have hxl : x.cps.toList.length = x.length := by
      rw [Array.length_toList]
      rfl
    generalize hcs : x.cps.toList = cs at hxl k
    have hc0 : 1 ≤ cs.length → atI cs 0 = some (cs.headD 0) := fun h => by
      cases cs with
      | nil => simp at h
      | cons c r => exact atI_nat (j := 0) rfl
    have bad : ∀ H', Same H H' → numL2 n cs = false → Q (.bl false) H' := fun H' s e => by
      have := k H' s
      rw [e] at this
      exact this
    refine ⟨fun σ' H' => σ' = [some (.str x), some (.int n), none] ∧ H' = H ∧ numL2 n cs = cs.all dig, ?_, ?_⟩
    · walk_at "s"
      by_cases h1 : 1 ≤ cs.length
      · have h1' : decide ((1 : Int) ≤ (x.length : Int)) = true := decide_eq_true (by omega)
        rw [h1']
        walk_at "s"
        by_cases h2 : cs.length ≤ n
        · have h2' : decide ((x.length : Int) ≤ (n : Int)) = true := decide_eq_true (by omega)
          rw [h2']
          have hat := hc0 h1
          walk_at "s"
          refine ⟨x, 0, cs.headD 0, rfl, rfl, hle, by rw [hcs]; exact hat, ?_⟩
          walk_at "s"
          rw [str_0, sign_eq]
          by_cases h3 : cs.headD 0 = 48 ∧ 1 < cs.length
          · rw [decide_eq_true h3.1]
            walk_at "s"
            rw [decide_eq_true (show (1 : Int) < (x.length : Int) by omega)]
            walk_at "s"
            refine bad _ (Same.refl _) ?_
            unfold numL2
            have h4 : cs.head? = some 48 := by
              cases cs with
              | nil => simp at h1
              | cons c r => exact congrArg some h3.1
            rw [decide_eq_true h4, decide_eq_true h3.2]
            simp
          · have h4 : numL2 n cs = cs.all dig := by
              unfold numL2
              rw [decide_eq_true h1, decide_eq_true h2]
              have : (decide (cs.head? = some 48) && decide (1 < cs.length)) = false := by
                by_cases h5 : cs.head? = some 48
                · rw [decide_eq_true h5]
                  refine decide_eq_false fun q => h3 ⟨?_, q⟩
                  cases cs with
                  | nil => cases h5
                  | cons c r => exact Option.some.inj h5
                · rw [decide_eq_false h5]
                  rfl
              rw [this]
              rfl
            by_cases h5 : cs.headD 0 = 48
            · rw [decide_eq_true h5]
              walk_at "s"
              rw [decide_eq_false (show ¬ (1 : Int) < (x.length : Int) from fun q => h3 ⟨h5, by omega⟩)]
              walk_at "s"
              exact h4
            · rw [decide_eq_false h5]
              walk_at "s"
              exact h4
        · have h2' : decide ((x.length : Int) ≤ (n : Int)) = false := decide_eq_false (by omega)
          rw [h2']
          walk_at "s"
          refine bad _ (Same.refl _) ?_
          unfold numL2
          rw [decide_eq_true h1, decide_eq_false h2]
          rfl
      · have h1' : decide ((1 : Int) ≤ (x.length : Int)) = false := decide_eq_false (by omega)
        rw [h1']
        walk_at "s"
        refine bad _ (Same.refl _) ?_
        unfold numL2
        rw [decide_eq_false h1]
        rfl
    · rintro σ' H' ⟨rfl, rfl, h4⟩
      rw [h4] at k
      refine ⟨_, rfl, x, rfl, fun L nL => lc_it walk_str (LcP H' L fun i => (cs[i]?).map fun c => V.bl (dig c)) (LcP.zero nL) (fun _ _ _ _ => trivial) ?_ ?_⟩
      · rintro i y H1 H2 hi p ⟨rfl, c, hc, rfl⟩
        have hc' : cs[i]? = some c := by
          rw [← hcs]
          simpa using hc
        walk_at "s"
        rw [digits_mem]
        exact p.yes (Same.refl _) nL (by have : cs.length ≤ 10000 := by omega
                                         have : i < cs.length := (List.getElem?_eq_some_iff.mp hc').1
                                         omega) (by rw [hc']; rfl)
      · intro H1 p
        have e := p.lst
        have hsz : x.cps.size = cs.length := by rw [← hcs]; exact (Array.length_toList).symm
        rw [hsz, fm_get] at e
        refine ⟨L, cs.map dig, rfl, SqL.of (by rw [e, List.map_map]; rfl), ?_⟩
        have : (cs.map dig).all id = cs.all dig := by rw [List.all_map]; rfl
        rw [this]
        exact k _ p.same
end
end My

namespace My
open PySem PySem.Spec PyProof.Rows L2
local macro_rules | `(tactic| walk_at "side") => `(tactic| first | (dsimp only; omega) | exact ⟨by omega, by omega⟩ | exact Or.inl ⟨by omega, by omega⟩ | exact Or.inr ⟨by omega, by omega⟩ | decide)
local macro_rules | `(tactic| walk_at "sq") => `(tactic| first | assumption | exact SqL.of (by assumption) | exact SqT.of (by assumption) | (refine L2.Same.seq (by assumption) ?_; walk_at "sq") | (refine L2.Same.seqT (by assumption) ?_; walk_at "sq") | exact Or.inl (by walk_at "sq") | exact Or.inr (by walk_at "sq"))
local macro_rules | `(tactic| walk_at "1") => `(tactic| first
  | refine ⟨_, rfl, iteT ?_⟩
  | refine ⟨_, rfl, iteF ?_⟩
  | refine ⟨_, rfl, ?_⟩
  | refine ⟨_, _, rfl, rfl, (by walk_at "side"), ?_⟩
  | refine ⟨_, _, rfl, rfl, ?_⟩
  | refine ⟨_, _, _, _, true, rfl, .ty _, .base (.int _), kit_ty (a := "int") (by decide +kernel), ?_⟩
  | refine ⟨_, _, _, _, false, rfl, .ty _, .base (.int _), kit_ty (a := "int") (by decide +kernel), ?_⟩
  | refine ⟨_, _, rfl, (by walk_at "sq"), ?_⟩
  | refine ⟨_, _, _, _, rfl, rfl, (by walk_at "sq"), (by first | rfl | assumption), ?_⟩
  | refine Or.inl ⟨_, _, _, _, rfl, rfl, (by walk_at "sq"), (by first | rfl | assumption), ?_⟩
  | refine Or.inr (Or.inl ⟨_, _, _, _, rfl, rfl, (by walk_at "sq"), (by first | rfl | assumption), ?_⟩)
  | refine ⟨_, _, rfl, Or.inl ⟨(by walk_at "sq"), ?_⟩⟩
  | refine ⟨rfl, ?_⟩
  | refine iteT ?_
  | refine iteF ?_
  | refine ⟨_, _, _, _, _, rfl, (by assumption), (by assumption), (by assumption), (by assumption), ?_⟩
  | refine Or.inl ⟨_, rfl, ?_⟩
  | refine Or.inr ⟨_, rfl, ?_⟩
  | refine ⟨_, _, rfl, (by walk_at "side"), ?_⟩
  | refine ⟨_, _, rfl, ?_⟩)
local macro_rules | `(tactic| walk_at "fld") => `(tactic| skip)
local macro_rules | `(tactic| walk_at "s") => `(tactic| repeat walk_at "1")
local macro_rules | `(tactic| walk_at "size") => `(tactic| first | exact Nat.le_of_ble_eq_true rfl | (simp only [List.length_map, List.length_append, List.length_cons, List.length_nil]; omega))
local macro_rules | `(tactic| walk_at "new") => `(tactic| (first | refine ⟨(by walk_at "size"), fun p hp => ?_⟩ | refine fun p hp => ?_); (generalize hq : upd _ p _ = H1); (obtain ⟨s, e⟩ := new_facts hp hq); clear hq)
theorem st_next {D : Ends} {σ : L2.St} {H : Hp} (h : D.nx σ H) : tNext D σ H := h
theorem st_nb {t : TE} {σ : L2.St} {H : Hp} {Q : Bool → Hp → Prop} (h : t σ H fun x H1 => ∃ b, x = .bl b ∧ Q (!b) H1) : tNot (tB t) σ H Q := h
theorem st_if {c : TT} {t u : TS} {σ : L2.St} {H : Hp} {D : Ends} (h : c σ H fun b H1 => if b = true then t D σ H1 else u D σ H1) : tIfS c t u D σ H := h
theorem st_test {t : TE} {σ : L2.St} {H : Hp} {Q : Bool → Hp → Prop} (h : t σ H fun x H' => ∃ k, x = .bl k ∧ Q k H') : tTest t σ H Q := h
theorem st_call {sp : Sp} {ds : List V} {E : XK} {t : TA} {σ : L2.St} {H : Hp} {Q : VK} (h : t σ H fun vs H1 => sp (vs ++ ds) H1 Q E) : tCall sp ds E t σ H Q := h
theorem st_cons {ta : TE} {tr : TA} {σ : L2.St} {H : Hp} {Q : List V → Hp → Prop} (h : ta σ H fun x H1 => tr σ H1 fun xs H2 => Q (x :: xs) H2) : tCons ta tr σ H Q := h
theorem pss_pre {X : Cx} {ss : List Stmt} {t u : TS} (h : PSs X ss t) (i : ∀ D σ H, u D σ H → t D σ H) : PSs X ss u := ⟨fun pins s σ H D I q => h.run pins s σ H D I (i D σ H q)⟩
/-- all([f(w) for w in a list of texts]) -/
theorem rd_allL {K : PySem.W.Frag} {te ta : TE} {σ : L2.St} {H : Hp} {Q : VK} {j : Nat} {vs : List Nat} {ws : List Str} (f : Str → Bool) (hte : ∀ R : VK, (∀ a H1, Same H H1 → H1 a = some (.lst (ws.map V.str)) → R (.ref a) H1) → te σ H R) (l : ws.length ≤ 2000)
    (hw2 : ∀ x, wipe ((wipe σ vs).set j (some x)) vs = wipe σ vs) (go : ∀ (H' : Hp) (x : Str) (R : VK), Same H H' → x ∈ ws → (∀ H'', Same H' H'' → R (.bl (f x)) H'') → ta ((wipe σ vs).set j (some (.str x))) H' R)
    (k : ∀ H', Same H H' → Q (.bl (ws.all f)) H') : tCB (rAll K) (tCons (tLc (iList K te) (gName j) tYes ta vs) tNil) σ H Q := by
  refine hte _ fun a H1 s1 e1 => ?_
  refine ⟨a, rfl, ⟨_, SqL.of e1⟩, fun D nD => lc_seq (seqIt_l (SqL.of e1)) (fun i H2 => Same H1 H2 ∧ H2 D = some (.lst (((ws.take i).map f).map V.bl))) ⟨same_upd nD, upd_same⟩ (fun i H2 q => q.1) ?_ ?_⟩
  · rintro i x H2 hx ⟨s2, e2⟩
    rw [List.getElem?_map] at hx
    cases hw : ws[i]? with
    | none => rw [hw] at hx; cases hx
    | some x' =>
      rw [hw] at hx
      obtain rfl := Option.some.inj (show some (V.str x') = some x from hx)
      have hi : i < ws.length := (List.getElem?_eq_some_iff.mp hw).1
      refine ⟨hw2 _, go H2 x' _ (s1.trans s2) (List.mem_of_getElem? hw) fun H3 s3 => ⟨_, s3 _ _ e2, ?_, (s2.trans s3).upd1 nD, ?_⟩⟩
      · rw [List.length_map, List.length_map, List.length_take]
        exact small1000_2 (by omega)
      · rw [upd_same, List.take_add_one, hw, List.map_append, List.map_append]
        rfl
  · rintro H2 ⟨s2, e2⟩
    rw [List.length_map, List.take_length] at e2
    refine ⟨D, ws.map f, rfl, SqL.of e2, ?_⟩
    rw [show (ws.map f).all id = ws.all f by rw [List.all_map]; rfl]
    exact k H2 (s1.trans s2)
/-- a word that has the form of an end -/
def endW (x : Str) : Bool := decide ((Txt.split x ".").length ≤ 2) && (Txt.split x ".").all nameS
/-- a word whose parts can be compared -/
def okW (x : Str) : Prop := okS x = true ∧ (Txt.split x ".").length ≤ 2000 ∧ ∀ y ∈ Txt.split x ".", okS y = true
def rightW (kind : Str) (ws : List Str) : Bool :=
  if kind = "link" then decide (ws.length = 4) && ((ws.drop 2).all (fun x => numL2 3 x.cps.toList) && (ws.take 2).all endW)
  else ws.all nameS && (if kind = "module" then decide (ws.length = 1) else if kind = "use" then decide (ws.length = 2) else decide (0 < ws.length))
def kindsS : List Str := ["module", "in", "out", "at", "use", "link"]
theorem decS (x y : Str) : decide (V.str x = V.str y) = decide (x = y) := decide_eq_decide.mpr ⟨V.str.inj, fun q => by rw [q]⟩
theorem decI (i j : Int) : decide (V.int i = V.int j) = decide (i = j) := decide_eq_decide.mpr ⟨V.int.inj, fun q => by rw [q]⟩
def spEndW : Sp := fun vs H Q _ => ∃ x : Str, vs = [.str x] ∧ okW x ∧ ∀ H', Same H H' → Q (.bl (endW x)) H'
def spRightW : Sp := fun vs H Q _ => ∃ (kind : Str) (a : Addr) (ws : List Str), vs = [.str kind, .ref a] ∧ H a = some (.lst (ws.map V.str)) ∧ ws.length ≤ 2000 ∧ (∀ x ∈ ws, okW x) ∧ ∀ H', Same H H' → Q (.bl (rightW kind ws)) H'
section
variable {P : Program} {w : World} {K : PySem.W.Frag} {mg : Str → Option Value} {base : Heap}
abbrev s_is_endT : Stmt := topS 31
theorem sc_is_endT : FnScope ["word", "names", "name"] ["word"] (defScope s_is_endT) := ⟨rfl, rfl, rfl, by decide +kernel, rfl, by decide +kernel, by decide +kernel⟩
set_option maxHeartbeats 4000000 in
theorem ok_is_endT (D : DfA K mg "is_end_texts" "_is_end" s_is_endT ["word"]) (T : Txt mg) (o_is_name : Own P w K mg base "is_name" 1 ["value"] (spD isNameD)) : Own P w K mg base "is_end_texts" 2 ["word"] spEndW := by
  refine D.own sc_is_endT (fun vs H Q E h => ?_) (fun f cdv A outer s H vs Q E hr h => ?_)
  · obtain ⟨_, rfl, _⟩ := h
    rfl
  · obtain ⟨x, rfl, ⟨hx, hl, hy⟩, k⟩ := h
    refine ⟨_, (pss_cons (ps_set (i := 1) sc_is_endT.nd rfl (Or.inl rfl) (pe_m1 PySem.F.slot_str_split PySem.F.type_str_split mt_split (pv 0) pe_str))
  (pss_one (ps_ret (pe_and (pe_cmpR op_le (pe_callB call_len_seq (by rfl) T.len PySem.boot_len (pa_cons (pv 1) pa_nil)) pe_int (nomark _)) (pe_one (pe_callB (cr_all rfl) (by rfl) T.all (by decide +kernel) (pa_cons (pe_lc (own := [("name", 2)]) (g := gName 2) (tt := tYes) rfl sc_is_endT.nd (pi_list (pv 1)) (blkOk_by (own := [("name", 2)]) (N := ["word", "names", "name"]) (sc := defScope s_is_endT) (by decide +kernel)) (fun _ _ _ _ _ => (pg_name (i := 2) sc_is_endT.nd rfl (Or.inl rfl))) (fun _ _ _ _ _ => pts_nil) (fun _ _ _ _ _ => (pe_own o_is_name (hr.mono (by decide)) (pa_cons (pv 2) pa_nil)))) pa_nil))))))), ?_⟩
    have hx1 : x.length ≤ 1000 := of_decide_eq_true (Bool.and_eq_true_iff.mp hx).2
    refine ⟨_, rfl, ⟨_, rfl⟩, x, ".", rfl, rfl, rfl, Nat.le_trans (show x.length + 2 ≤ 2000 by omega) (by decide), fun p np => ?_⟩
    generalize hq : upd H p _ = H1
    obtain ⟨s1, e1⟩ := new_facts np hq
    clear hq
    have k2 : ∀ H', Same H1 H' → Q (.bl (decide ((Txt.split x ".").length ≤ 2) && (Txt.split x ".").all nameS)) H' := fun H' s' => k H' (s1.trans s')
    generalize Txt.split x "." = ps at *
    refine ⟨_, rfl, p, _, rfl, Or.inl (SqL.of e1), _, _, rfl, rfl, _, rfl, ?_⟩
    have ed : decide (((ps.map V.str).length : Int) ≤ 2) = decide (ps.length ≤ 2) := decide_eq_decide.mpr (by rw [List.length_map]; omega)
    rw [ed]
    cases h2 : decide (ps.length ≤ 2) with
    | false =>
      refine iteF ?_
      have := k2 H1 (Same.refl _)
      rw [h2] at this
      exact this
    | true =>
      refine iteT ?_
      rw [h2, Bool.true_and] at k2
      refine rd_allL nameS (fun R h => ⟨_, rfl, h p H1 (Same.refl _) e1⟩) hl (fun _ => rfl) (fun H' y R s hy' h => ?_) k2
      exact ⟨_, rfl, .str y, .str y, rfl, .str (hy y hy'), fun H'' s'' => h H'' s''⟩
abbrev s_is_rightT : Stmt := topS 30
theorem sc_is_rightT : FnScope ["kind", "words", "word"] ["kind", "words"] (defScope s_is_rightT) := ⟨rfl, rfl, rfl, by decide +kernel, rfl, by decide +kernel, by decide +kernel⟩
set_option maxHeartbeats 8000000 in
theorem ok_is_rightT (D : Df K mg "_is_right" s_is_rightT ["kind", "words"]) (T : Txt mg) (gM : ∃ t, mg "MOST_DIGITS" = some (.int 3 t)) (o_is_name : Own P w K mg base "is_name" 1 ["value"] (spD isNameD)) (o_is_number_word : Own P w K mg base "is_number_word" 1 ["word", "most"] spNumWord)
    (o_is_end_texts : Own P w K mg base "is_end_texts" 2 ["word"] spEndW) : Own P w K mg base "_is_right" 3 ["kind", "words"] spRightW := by
  obtain ⟨tM, gM⟩ := gM
  refine D.own sc_is_rightT (fun vs H Q E h => ?_) (fun f cdv A outer s H vs Q E hr h => ?_)
  · obtain ⟨_, _, _, rfl, _⟩ := h
    rfl
  · obtain ⟨kind, a, ws, rfl, ha, hl, hok, k⟩ := h
    refine ⟨_, (pss_cons (ps_if (pt_cmpR op_eq (pv 0) pe_str (nomark _))
    (pss_cons (ps_if (PW.pt (pw_or (pt_cmpR op_ne (pe_callB call_len_seq (by rfl) T.len PySem.boot_len (pa_cons (pv 1) pa_nil)) pe_int (nomark _)) (pw_or1 (pt_not (pt_val (pe_callB (cr_all rfl) (by rfl) T.all (by decide +kernel) (pa_cons (pe_lc (own := [("word", 2)]) (g := gName 2) (tt := tYes) rfl sc_is_rightT.nd (pi_list (pe_slice sl_list (pv 1) (po_some pe_int) po_none)) (blkOk_by (own := [("word", 2)]) (N := ["kind", "words", "word"]) (sc := defScope s_is_rightT) (by decide +kernel)) (fun _ _ _ _ _ => (pg_name (i := 2) sc_is_rightT.nd rfl (Or.inl rfl))) (fun _ _ _ _ _ => pts_nil) (fun _ _ _ _ _ => (pe_own o_is_number_word (hr.mono (by decide)) (pa_cons (pv 2) (pa_cons (pe_glob (v := .int 3) rfl gM ⟨tM, rfl⟩) pa_nil))))) pa_nil)))))))
        (pss_one (ps_ret pe_bl))
        pss_nil)
      (pss_one (ps_ret (pe_callB (cr_all rfl) (by rfl) T.all (by decide +kernel) (pa_cons (pe_lc (own := [("word", 2)]) (g := gName 2) (tt := tYes) rfl sc_is_rightT.nd (pi_list (pe_slice sl_list (pv 1) po_none (po_some pe_int))) (blkOk_by (own := [("word", 2)]) (N := ["kind", "words", "word"]) (sc := defScope s_is_rightT) (by decide +kernel)) (fun _ _ _ _ _ => (pg_name (i := 2) sc_is_rightT.nd rfl (Or.inl rfl))) (fun _ _ _ _ _ => pts_nil) (fun _ _ _ _ _ => (pe_own o_is_end_texts (hr.mono (by decide)) (pa_cons (pv 2) pa_nil)))) pa_nil)))))
    pss_nil)
  (pss_cons (ps_if (pt_not (pt_val (pe_callB (cr_all rfl) (by rfl) T.all (by decide +kernel) (pa_cons (pe_lc (own := [("word", 2)]) (g := gName 2) (tt := tYes) rfl sc_is_rightT.nd (pi_list (pv 1)) (blkOk_by (own := [("word", 2)]) (N := ["kind", "words", "word"]) (sc := defScope s_is_rightT) (by decide +kernel)) (fun _ _ _ _ _ => (pg_name (i := 2) sc_is_rightT.nd rfl (Or.inl rfl))) (fun _ _ _ _ _ => pts_nil) (fun _ _ _ _ _ => (pe_own o_is_name (hr.mono (by decide)) (pa_cons (pv 2) pa_nil)))) pa_nil))))
    (pss_one (ps_ret pe_bl))
    pss_nil)
  (pss_cons (ps_if (pt_cmpR op_eq (pv 0) pe_str (nomark _))
    (pss_one (ps_ret (pe_cmpR op_eq (pe_callB call_len_seq (by rfl) T.len PySem.boot_len (pa_cons (pv 1) pa_nil)) pe_int (nomark _))))
    pss_nil)
  (pss_one (ps_ret (pe_ifExp (pt_cmpR op_eq (pv 0) pe_str (nomark _)) (pe_cmpR op_eq (pe_callB call_len_seq (by rfl) T.len PySem.boot_len (pa_cons (pv 1) pa_nil)) pe_int (nomark _)) (pe_cmpR op_gt (pe_callB call_len_seq (by rfl) T.len PySem.boot_len (pa_cons (pv 1) pa_nil)) pe_int (nomark _)))))))), ?_⟩
    refine ⟨_, rfl, rfl, _, rfl, ?_⟩
    rw [decS]
    unfold rightW at k
    have dl : ∀ (n : Nat) (z : Int), z = (n : Int) → decide (V.int ((ws.map V.str).length : Int) = V.int z) = decide (ws.length = n) := fun n z e => by
      rw [decI]
      exact decide_eq_decide.mpr (by rw [List.length_map]; omega)
    by_cases h0 : kind = "link"
    · rw [decide_eq_true h0]
      refine iteT ?_
      rw [if_pos h0] at k
      refine ⟨_, rfl, a, _, rfl, Or.inl (SqL.of ha), rfl, _, rfl, ?_⟩
      rw [dl 4 4 rfl]
      cases h4 : decide (ws.length = 4) with
      | false =>
        refine iteT ?_
        refine iteT ?_
        have := k H (Same.refl _)
        rw [h4] at this
        exact this
      | true =>
        refine iteF ?_
        rw [h4, Bool.true_and] at k
        refine st_nb ?_
        refine rd_allL (ws := ws.drop 2) (fun x => numL2 3 x.cps.toList) (fun R h => ⟨_, rfl, _, rfl, a, _, rfl, SqL.of ha, fun p np => ?_⟩) (by rw [List.length_drop]; omega) (fun _ => rfl) (fun H' y R s hy h => ?_) fun H1 s1 => ⟨_, rfl, ?_⟩
        · rw [show cutV (ws.map V.str) (some 2) none = (ws.map V.str).drop 2 from cut_from 2, ← List.map_drop]
          exact h p _ (same_upd np) upd_same
        · refine ⟨_, rfl, y, 3, rfl, ?_, fun H'' s'' => h H'' s''⟩
          have := (hok y (List.mem_of_mem_drop hy)).1
          have : y.length ≤ 1000 := of_decide_eq_true (Bool.and_eq_true_iff.mp this).2
          omega
        · cases h5 : (ws.drop 2).all (fun x => numL2 3 x.cps.toList) with
          | false =>
            refine iteT ?_
            have := k H1 s1
            rw [h5] at this
            exact this
          | true =>
            refine iteF ?_
            rw [h5, Bool.true_and] at k
            refine st_next ?_
            dsimp only
            refine st_ret ?_
            refine rd_allL (ws := ws.take 2) endW (fun R h => ⟨_, rfl, _, rfl, a, _, rfl, SqL.of (s1 _ _ ha), fun p np => ?_⟩) (by rw [List.length_take]; omega) (fun _ => rfl) (fun H' y R s hy h => ?_) fun H2 s2 => k H2 (s1.trans s2)
            · rw [show cutV (ws.map V.str) none (some 2) = (ws.map V.str).take 2 from cut_to 2, ← List.map_take]
              exact h p _ (same_upd np) upd_same
            · exact ⟨_, rfl, y, rfl, hok y (List.mem_of_mem_take hy), fun H'' s'' => h H'' s''⟩
    · rw [decide_eq_false h0]
      refine iteF ?_
      rw [if_neg h0] at k
      refine st_next ?_
      dsimp only
      refine st_seq (st_if (st_nb ?_))
      refine rd_allL (ws := ws) nameS (fun R h => ⟨_, rfl, h a H (Same.refl _) ha⟩) hl (fun _ => rfl) (fun H' y R s hy h => ⟨_, rfl, .str y, .str y, rfl, .str (hok y hy).1, fun H'' s'' => h H'' s''⟩) fun H1 s1 => ⟨_, rfl, ?_⟩
      cases hn : ws.all nameS with
      | false =>
        refine iteT ?_
        have := k H1 s1
        rw [hn] at this
        exact this
      | true =>
        refine iteF ?_
        rw [hn, Bool.true_and] at k
        refine ⟨_, rfl, rfl, _, rfl, ?_⟩
        rw [decS]
        by_cases h1 : kind = "module"
        · rw [decide_eq_true h1]
          refine iteT ?_
          rw [if_pos h1] at k
          refine ⟨_, rfl, a, _, rfl, Or.inl (SqL.of (s1 _ _ ha)), rfl, ?_⟩
          rw [dl 1 1 rfl]
          exact k H1 s1
        · rw [decide_eq_false h1]
          refine iteF ?_
          rw [if_neg h1] at k
          refine ⟨_, rfl, rfl, _, rfl, ?_⟩
          rw [decS]
          by_cases h2 : kind = "use"
          · rw [decide_eq_true h2]
            refine iteT ?_
            rw [if_pos h2] at k
            refine ⟨_, rfl, a, _, rfl, Or.inl (SqL.of (s1 _ _ ha)), rfl, ?_⟩
            rw [dl 2 2 rfl]
            exact k H1 s1
          · rw [decide_eq_false h2]
            refine iteF ?_
            rw [if_neg h2] at k
            refine ⟨_, rfl, a, _, rfl, Or.inl (SqL.of (s1 _ _ ha)), _, _, rfl, rfl, ?_⟩
            have e3 : decide ((0 : Int) < ((ws.map V.str).length : Int)) = decide (0 < ws.length) := decide_eq_decide.mpr (by rw [List.length_map]; omega)
            show Q (.bl (decide ((0 : Int) < ((ws.map V.str).length : Int)))) H1
            rw [e3]
            exact k H1 s1
end
end My

namespace My
open PySem PySem.Spec PyProof.Rows L2
local macro_rules | `(tactic| walk_at "side") => `(tactic| first | (dsimp only; omega) | exact ⟨by omega, by omega⟩ | exact Or.inl ⟨by omega, by omega⟩ | exact Or.inr ⟨by omega, by omega⟩ | decide)
local macro_rules | `(tactic| walk_at "sq") => `(tactic| first | assumption | exact SqL.of (by assumption) | exact SqT.of (by assumption) | (refine L2.Same.seq (by assumption) ?_; walk_at "sq") | (refine L2.Same.seqT (by assumption) ?_; walk_at "sq") | exact Or.inl (by walk_at "sq") | exact Or.inr (by walk_at "sq"))
local macro_rules | `(tactic| walk_at "1") => `(tactic| first
  | refine ⟨_, rfl, iteT ?_⟩
  | refine ⟨_, rfl, iteF ?_⟩
  | refine ⟨_, rfl, ?_⟩
  | refine ⟨_, _, rfl, rfl, (by walk_at "side"), ?_⟩
  | refine ⟨_, _, rfl, rfl, ?_⟩
  | refine ⟨_, _, _, _, true, rfl, .ty _, .base (.int _), kit_ty (a := "int") (by decide +kernel), ?_⟩
  | refine ⟨_, _, _, _, false, rfl, .ty _, .base (.int _), kit_ty (a := "int") (by decide +kernel), ?_⟩
  | refine ⟨_, _, rfl, (by walk_at "sq"), ?_⟩
  | refine ⟨_, _, _, _, rfl, rfl, (by walk_at "sq"), (by first | rfl | assumption), ?_⟩
  | refine Or.inl ⟨_, _, _, _, rfl, rfl, (by walk_at "sq"), (by first | rfl | assumption), ?_⟩
  | refine Or.inr (Or.inl ⟨_, _, _, _, rfl, rfl, (by walk_at "sq"), (by first | rfl | assumption), ?_⟩)
  | refine ⟨_, _, rfl, Or.inl ⟨(by walk_at "sq"), ?_⟩⟩
  | refine ⟨rfl, ?_⟩
  | refine iteT ?_
  | refine iteF ?_
  | refine ⟨_, _, _, _, _, rfl, (by assumption), (by assumption), (by assumption), (by assumption), ?_⟩
  | refine Or.inl ⟨_, rfl, ?_⟩
  | refine Or.inr ⟨_, rfl, ?_⟩
  | refine ⟨_, _, rfl, (by walk_at "side"), ?_⟩
  | refine ⟨_, _, rfl, ?_⟩)
local macro_rules | `(tactic| walk_at "fld") => `(tactic| skip)
local macro_rules | `(tactic| walk_at "s") => `(tactic| repeat walk_at "1")
local macro_rules | `(tactic| walk_at "size") => `(tactic| first | exact Nat.le_of_ble_eq_true rfl | (simp only [List.length_map, List.length_append, List.length_cons, List.length_nil]; omega))
local macro_rules | `(tactic| walk_at "new") => `(tactic| (first | refine ⟨(by walk_at "size"), fun p hp => ?_⟩ | refine fun p hp => ?_); (generalize hq : upd _ p _ = H1); (obtain ⟨s, e⟩ := new_facts hp hq); clear hq)
/-- a module's constant: a tuple of texts -/
structure GTup (K : PySem.W.Frag) (mg : Str → Option Value) (x : Str) (xs : List Str) : Prop where
  ex : ∃ (a : Addr) (o : Obj) (its : Array Value) (n : Nat), mg x = some (.ref a) ∧ K.lookup a = some o ∧ o.cls = .type "tuple" ∧ o.dict = none ∧ o.data = .seq its n ∧ its.size ≤ sizeLine ∧ Vals (xs.map V.str) its.toList
def canS (kind last : Str) : Bool := decide (kind ∈ kindsS) && (if kind = "module" ∨ last = "" then decide (kind = "module") else (decide (idxS kindsS last < idxS kindsS kind) || (decide (kind = last) && decide (kind ∈ [("use" : Str), "link"]))))
def spCanS : Sp := fun vs H Q _ => ∃ kind last : Str, vs = [.str kind, .str last] ∧ (last = "" ∨ last ∈ kindsS) ∧ Q (.bl (canS kind last)) H
section
variable {P : Program} {w : World} {K : PySem.W.Frag} {mg : Str → Option Value} {base : Heap}
abbrev s_can_stand : Stmt := topS 29
theorem sc_can_stand : FnScope ["kind", "last"] ["kind", "last"] (defScope s_can_stand) := ⟨rfl, rfl, rfl, by decide +kernel, rfl, by decide +kernel, by decide +kernel⟩
set_option maxHeartbeats 4000000 in
theorem ok_can_stand (D : Df K mg "_can_stand" s_can_stand ["kind", "last"]) (gK : GTup K mg "KINDS" kindsS) (gM : GTup K mg "MANY" [("use" : Str), "link"]) : Own P w K mg base "_can_stand" 1 ["kind", "last"] spCanS := by
  obtain ⟨aK, oK, iK, nK, mK, lK, cK, dK, eK, zK, vK⟩ := gK
  obtain ⟨aM, oM, iM, nM, mM, lM, cM, dM, eM, zM, vM⟩ := gM
  have tK : ∀ H, SqT K H aK (kindsS.map V.str) := fun H => Or.inr ⟨oK, iK, nK, lK, cK, eK, zK, vK⟩
  have tM : ∀ H, SqT K H aM ([("use" : Str), "link"].map V.str) := fun H => Or.inr ⟨oM, iM, nM, lM, cM, eM, zM, vM⟩
  refine D.own sc_can_stand (fun vs H Q E h => ?_) (fun f cdv A outer s H vs Q E hr h => ?_)
  · obtain ⟨_, _, rfl, _⟩ := h
    rfl
  · obtain ⟨kind, last, rfl, hlast, k⟩ := h
    refine ⟨_, (pss_cons (ps_if (pt_cmpR op_notIn_seq (pv 0) (pe_glob (v := .ref aK) rfl mK rfl) (by rfl))
    (pss_one (ps_ret pe_bl))
    pss_nil)
  (pss_cons (ps_if (PW.pt (pw_or (pt_cmpR op_eq (pv 0) pe_str (nomark _)) (pw_or1 (pt_cmpR op_eq (pv 1) pe_str (nomark _)))))
    (pss_one (ps_ret (pe_cmpR op_eq (pv 0) pe_str (nomark _))))
    pss_nil)
  (pss_one (ps_ret (pe_or (pe_cmpR op_lt (pe_bm PySem.F.plainAttrs_tuple PySem.F.slot_tuple_index PySem.F.type_tuple_index mt_tup_index (pe_glob (v := .ref aK) rfl mK rfl) (pa_cons (pv 1) pa_nil)) (pe_bm PySem.F.plainAttrs_tuple PySem.F.slot_tuple_index PySem.F.type_tuple_index mt_tup_index (pe_glob (v := .ref aK) rfl mK rfl) (pa_cons (pv 0) pa_nil)) (nomark _)) (pe_one (pe_and (pe_cmpR op_eq (pv 0) (pv 1) (nomark _)) (pe_one (pe_cmpR op_in_seq (pv 0) (pe_glob (v := .ref aM) rfl mM rfl) (by rfl)))))))))), ?_⟩
    refine ⟨_, rfl, aK, _, rfl, Or.inr (tK H), rfl, flat_strs kindsS, _, rfl, ?_⟩
    rw [inV_str]
    unfold canS at k
    have ty : tyV K "tuple" (.ref aK) H := Or.inr (Or.inl ⟨rfl, oK, lK, cK, dK⟩)
    cases h0 : decide (kind ∈ kindsS) with
    | false =>
      refine iteT ?_
      rw [h0] at k
      exact k
    | true =>
      refine iteF ?_
      rw [h0, Bool.true_and] at k
      have hk : kind ∈ kindsS := of_decide_eq_true h0
      refine ⟨_, rfl, rfl, _, rfl, ?_⟩
      rw [decS]
      by_cases h1 : kind = "module"
      · rw [decide_eq_true h1]
        refine iteT ?_
        refine iteT ?_
        refine ⟨_, rfl, rfl, ?_⟩
        rw [if_pos (Or.inl h1)] at k
        rw [decS]
        exact k
      · rw [decide_eq_false h1]
        refine iteF ?_
        refine ⟨_, rfl, rfl, _, rfl, ?_⟩
        rw [decS]
        by_cases h2 : last = ""
        · rw [decide_eq_true h2]
          refine iteT ?_
          refine ⟨_, rfl, rfl, ?_⟩
          rw [if_pos (Or.inr h2)] at k
          rw [decS]
          exact k
        · rw [decide_eq_false h2]
          refine iteF ?_
          rw [if_neg (fun q => q.elim h1 h2)] at k
          have hl : last ∈ kindsS := hlast.resolve_left h2
          refine ⟨ty, _, rfl, aK, kindsS, last, idxS kindsS last, rfl, rfl, tK H, idxS_at hl, fun m hm e => ?_, ty, _, rfl, aK, kindsS, kind, idxS kindsS kind, rfl, rfl, tK H, idxS_at hk, fun m hm e => ?_, _, _, rfl, rfl, ?_⟩
          · have := idxS_no hm e
            rw [beq_self_eq_true] at this
            cases this
          · have := idxS_no hm e
            rw [beq_self_eq_true] at this
            cases this
          · have e3 : decide (((idxS kindsS last : Nat) : Int) < ((idxS kindsS kind : Nat) : Int)) = decide (idxS kindsS last < idxS kindsS kind) := decide_eq_decide.mpr (by omega)
            refine ⟨_, congrArg V.bl e3, ?_⟩
            cases h3 : decide (idxS kindsS last < idxS kindsS kind) with
            | true =>
              refine iteT ?_
              rw [h3] at k
              exact k
            | false =>
              refine iteF ?_
              rw [h3, Bool.false_or] at k
              refine ⟨_, rfl, _, rfl, rfl, _, rfl, ?_⟩
              rw [decS]
              cases h4 : decide (kind = last) with
              | false =>
                refine iteF ?_
                rw [h4] at k
                exact k
              | true =>
                refine iteT ?_
                rw [h4, Bool.true_and] at k
                refine ⟨_, rfl, aM, _, rfl, Or.inr (tM H), rfl, flat_strs _, ?_⟩
                rw [inV_str]
                exact k
end
end My

namespace My
open PySem PySem.Spec PyProof.Rows L2
local macro_rules | `(tactic| walk_at "side") => `(tactic| first | (dsimp only; omega) | exact ⟨by omega, by omega⟩ | exact Or.inl ⟨by omega, by omega⟩ | exact Or.inr ⟨by omega, by omega⟩ | decide)
local macro_rules | `(tactic| walk_at "sq") => `(tactic| first | assumption | exact SqL.of (by assumption) | exact SqT.of (by assumption) | (refine L2.Same.seq (by assumption) ?_; walk_at "sq") | (refine L2.Same.seqT (by assumption) ?_; walk_at "sq") | exact Or.inl (by walk_at "sq") | exact Or.inr (by walk_at "sq"))
local macro_rules | `(tactic| walk_at "1") => `(tactic| first
  | refine ⟨_, rfl, iteT ?_⟩
  | refine ⟨_, rfl, iteF ?_⟩
  | refine ⟨_, rfl, ?_⟩
  | refine ⟨_, _, rfl, rfl, (by walk_at "side"), ?_⟩
  | refine ⟨_, _, rfl, rfl, ?_⟩
  | refine ⟨_, _, _, _, true, rfl, .ty _, .base (.int _), kit_ty (a := "int") (by decide +kernel), ?_⟩
  | refine ⟨_, _, _, _, false, rfl, .ty _, .base (.int _), kit_ty (a := "int") (by decide +kernel), ?_⟩
  | refine ⟨_, _, rfl, (by walk_at "sq"), ?_⟩
  | refine ⟨_, _, _, _, rfl, rfl, (by walk_at "sq"), (by first | rfl | assumption), ?_⟩
  | refine Or.inl ⟨_, _, _, _, rfl, rfl, (by walk_at "sq"), (by first | rfl | assumption), ?_⟩
  | refine Or.inr (Or.inl ⟨_, _, _, _, rfl, rfl, (by walk_at "sq"), (by first | rfl | assumption), ?_⟩)
  | refine ⟨_, _, rfl, Or.inl ⟨(by walk_at "sq"), ?_⟩⟩
  | refine ⟨rfl, ?_⟩
  | refine iteT ?_
  | refine iteF ?_
  | refine ⟨_, _, _, _, _, rfl, (by assumption), (by assumption), (by assumption), (by assumption), ?_⟩
  | refine Or.inl ⟨_, rfl, ?_⟩
  | refine Or.inr ⟨_, rfl, ?_⟩
  | refine ⟨_, _, rfl, (by walk_at "side"), ?_⟩
  | refine ⟨_, _, rfl, ?_⟩)
local macro_rules | `(tactic| walk_at "fld") => `(tactic| skip)
local macro_rules | `(tactic| walk_at "s") => `(tactic| repeat walk_at "1")
local macro_rules | `(tactic| walk_at "size") => `(tactic| first | exact Nat.le_of_ble_eq_true rfl | (simp only [List.length_map, List.length_append, List.length_cons, List.length_nil]; omega))
local macro_rules | `(tactic| walk_at "new") => `(tactic| (first | refine ⟨(by walk_at "size"), fun p hp => ?_⟩ | refine fun p hp => ?_); (generalize hq : upd _ p _ = H1); (obtain ⟨s, e⟩ := new_facts hp hq); clear hq)
/-- a line of a text, by what it tells -/
inductive Ln where
  | mod (n : Str)
  | inl (ws : List Str)
  | out (ws : List Str)
  | sta (ws : List Str)
  | use (l n : Str)
  | link (f t wa wb : Str) (a b : Nat)
def Ln.kind : Ln → Str
  | .mod _ => "module"
  | .inl _ => "in"
  | .out _ => "out"
  | .sta _ => "at"
  | .use _ _ => "use"
  | .link .. => "link"
def Ln.ws : Ln → List Str
  | .mod n => [n]
  | .inl ws => ws
  | .out ws => ws
  | .sta ws => ws
  | .use l n => [l, n]
  | .link f t wa wb _ _ => [f, t, wa, wb]
/-- the numbers of a line are those of its words -/
def Ln.nums : Ln → Prop
  | .link _ _ wa wb a b => (intText? wa = some (a : Int) ∧ wa.length ≤ 640) ∧ intText? wb = some (b : Int) ∧ wb.length ≤ 640
  | _ => True
def Ln.isMod : Ln → Bool
  | .mod _ => true
  | _ => false
/-- what a line tells of a module -/
def Ln.put (m : DM) : Ln → DM
  | .mod n => { m with name := n }
  | .inl ws => { m with inl := m.inl ++ ws }
  | .out ws => { m with out := m.out ++ ws }
  | .sta ws => { m with sta := m.sta ++ ws }
  | .use l n => { m with calls := m.calls ++ [(l, n)] }
  | .link f t _ _ a b => { m with links := m.links ++ [(f, t, a, b)] }
/-- few things -/
structure DMFew (m : DM) : Prop where
  inl : m.inl.length ≤ 1000
  out : m.out.length ≤ 1000
  sta : m.sta.length ≤ 1000
  calls : m.calls.length ≤ 1000
  links : m.links.length ≤ 1000
/-- what is told of a module: its lists stand apart from what stands still -/
structure ToldAt (G H : Hp) (t : Addr) (m : DM) : Prop where
  ex : ∃ (a1 a2 a3 a4 a5 : Addr) (v4 v5 : List V), G t = some (.tup [.str m.name, .ref a1, .ref a2, .ref a3, .ref a4, .ref a5]) ∧
    H a1 = some (.lst (m.inl.map V.str)) ∧ H a2 = some (.lst (m.out.map V.str)) ∧ H a3 = some (.lst (m.sta.map V.str)) ∧ H a4 = some (.lst v4) ∧ H a5 = some (.lst v5) ∧
    DvAll G v4 (m.links.map linkD) ∧ DvAll G v5 (m.calls.map callD) ∧ (G a1 = none ∧ G a2 = none ∧ G a3 = none ∧ G a4 = none ∧ G a5 = none) ∧ [a1, a2, a3, a4, a5].Nodup
def spTell : Sp := fun vs H Q _ => ∃ (t w : Addr) (l : Ln) (G : Hp) (m : DM), vs = [.ref t, .str l.kind, .ref w] ∧ Same G H ∧ ToldAt G H t m ∧ G w = some (.lst (l.ws.map V.str)) ∧ (∀ x ∈ l.ws, okS x = true) ∧ l.nums ∧ l.isMod = false ∧ l.ws.length ≤ 1000 ∧ DMFew m ∧
  ∀ G' H', Same G G' → Same G' H' → ToldAt G' H' t (l.put m) → Q .non H'
theorem nd5 {a1 a2 a3 a4 a5 : Addr} (h : [a1, a2, a3, a4, a5].Nodup) : (a1 ≠ a2 ∧ a1 ≠ a3 ∧ a1 ≠ a4 ∧ a1 ≠ a5) ∧ (a2 ≠ a3 ∧ a2 ≠ a4 ∧ a2 ≠ a5) ∧ (a3 ≠ a4 ∧ a3 ≠ a5) ∧ a4 ≠ a5 := by
  simp only [List.nodup_cons, List.mem_cons, List.not_mem_nil, or_false, not_or, not_false_eq_true, and_true] at h
  exact ⟨h.1, h.2.1, h.2.2.1, h.2.2.2.1⟩
/-- a list beside what stands still is written -/
theorem same_beside {G H : Hp} {a : Addr} {o : HO} (s : Same G H) (n : G a = none) : Same G (upd H a o) := fun c x e => by
  rw [upd_ne (ne_of_none e n)]
  exact s _ _ e
theorem lit_ne {x y : Str} (h : decide (x = y) = false) : decide (V.str x = V.str y) = false := by rw [decS]; exact h
section
variable {P : Program} {w : World} {K : PySem.W.Frag} {mg : Str → Option Value} {base : Heap}
abbrev s_tell : Stmt := topS 33
theorem sc_tell : FnScope ["told", "kind", "words", "_", "inlets", "outlets", "stations", "links", "calls"] ["told", "kind", "words"] (defScope s_tell) := ⟨rfl, rfl, rfl, by decide +kernel, rfl, by decide +kernel, by decide +kernel⟩
set_option maxHeartbeats 16000000 in
theorem ok_tell (D : Df K mg "_tell" s_tell ["told", "kind", "words"]) (T : Txt mg) : Own P w K mg base "_tell" 1 ["told", "kind", "words"] spTell := by
  refine D.own sc_tell (fun vs H Q E h => ?_) (fun f cdv A outer s H vs Q E hr h => ?_)
  · obtain ⟨_, _, _, _, _, rfl, _⟩ := h
    rfl
  · obtain ⟨t, ww, l, G, m, rfl, sG, ⟨a1, a2, a3, a4, a5, v4, v5, et, e1, e2, e3, e4, e5, d4, d5, ⟨n1, n2, n3, n4, n5⟩, nd⟩, ew, hok, hnum, hmod, hlen, few, k⟩ := h
    refine ⟨_, (pss_cons (ps_asg (pv 0) (pg_tup (by rfl) (pgs_cons (pg_name (i := 3) sc_tell.nd rfl (Or.inl rfl)) (pgs_cons (pg_name (i := 4) sc_tell.nd rfl (Or.inl rfl)) (pgs_cons (pg_name (i := 5) sc_tell.nd rfl (Or.inl rfl)) (pgs_cons (pg_name (i := 6) sc_tell.nd rfl (Or.inl rfl)) (pgs_cons (pg_name (i := 7) sc_tell.nd rfl (Or.inl rfl)) (pgs_cons (pg_name (i := 8) sc_tell.nd rfl (Or.inl rfl)) pgs_nil))))))))
  (pss_one (ps_if (pt_cmpR op_eq (pv 1) pe_str (nomark _))
    (pss_one (ps_expr (pe_bm PySem.F.plainAttrs_list PySem.F.slot_list_extend PySem.F.type_list_extend mt_extend (pv 4) (pa_cons (pv 2) pa_nil))))
    (pss_one (ps_if (pt_cmpR op_eq (pv 1) pe_str (nomark _))
        (pss_one (ps_expr (pe_bm PySem.F.plainAttrs_list PySem.F.slot_list_extend PySem.F.type_list_extend mt_extend (pv 5) (pa_cons (pv 2) pa_nil))))
        (pss_one (ps_if (pt_cmpR op_eq (pv 1) pe_str (nomark _))
            (pss_one (ps_expr (pe_bm PySem.F.plainAttrs_list PySem.F.slot_list_extend PySem.F.type_list_extend mt_extend (pv 6) (pa_cons (pv 2) pa_nil))))
            (pss_one (ps_if (pt_cmpR op_eq (pv 1) pe_str (nomark _))
                (pss_one (ps_expr (pe_bm PySem.F.plainAttrs_list PySem.F.slot_list_append PySem.F.type_list_append mt_append (pv 8) (pa_cons (pe_tup (pa_cons (pe_ix ix_list (pv 2) pe_int (fun _ _ => rfl)) (pa_cons (pe_ix ix_list (pv 2) pe_int (fun _ _ => rfl)) pa_nil))) pa_nil))))
                (pss_one (ps_expr (pe_bm PySem.F.plainAttrs_list PySem.F.slot_list_append PySem.F.type_list_append mt_append (pv 7) (pa_cons (pe_tup (pa_cons (pe_ix ix_list (pv 2) pe_int (fun _ _ => rfl)) (pa_cons (pe_ix ix_list (pv 2) pe_int (fun _ _ => rfl)) (pa_cons (pe_callTy call_int_str (by rfl) T.int (by decide +kernel) (pa_cons (pe_ix ix_list (pv 2) pe_int (fun _ _ => rfl)) pa_nil)) (pa_cons (pe_callTy call_int_str (by rfl) T.int (by decide +kernel) (pa_cons (pe_ix ix_list (pv 2) pe_int (fun _ _ => rfl)) pa_nil)) pa_nil))))) pa_nil))))))))))))), ?_⟩
    obtain ⟨⟨a12, a13, a14, a15⟩, ⟨a23, a24, a25⟩, ⟨a34, a35⟩, a45⟩ := nd5 nd
    have big : ∀ {n : Nat}, n ≤ 4000 → n ≤ sizeLine := fun h => Nat.le_trans h (by decide)
    have hf1 := few.inl
    have hf2 := few.out
    have hf3 := few.sta
    have hf4 := few.calls
    have hf5 := few.links
    refine ⟨_, rfl, t, _, rfl, SqT.of (sG _ _ et), rfl, _, _, rfl, _, _, rfl, _, _, rfl, _, _, rfl, _, _, rfl, _, _, rfl, rfl, ?_⟩
    refine ⟨_, rfl, rfl, _, rfl, ?_⟩
    cases l with
    | mod n => cases hmod
    | inl ws =>
      rw [show decide (V.str (Ln.inl ws).kind = V.str "in") = true from decide_eq_true rfl]
      refine iteT ?_
      refine ⟨_, rfl, Or.inl ⟨rfl, _, SqL.of e1⟩, _, rfl, a1, ww, _, _, rfl, rfl, e1, sG _ _ ew, big (by rw [List.length_map, List.length_map]; omega), ?_⟩
      refine k G _ (Same.refl _) (same_beside sG n1) ⟨a1, a2, a3, a4, a5, v4, v5, et, ?_, ?_, ?_, ?_, ?_, d4, d5, ⟨n1, n2, n3, n4, n5⟩, nd⟩
      · rw [upd_same, ← List.map_append]
        rfl
      · rw [upd_ne a12.symm]; exact e2
      · rw [upd_ne a13.symm]; exact e3
      · rw [upd_ne a14.symm]; exact e4
      · rw [upd_ne a15.symm]; exact e5
    | out ws =>
      rw [show decide (V.str (Ln.out ws).kind = V.str "in") = false from lit_ne (show decide (("out" : Str) = "in") = false by decide)]
      refine iteF ?_
      refine ⟨_, rfl, rfl, _, rfl, ?_⟩
      rw [show decide (V.str (Ln.out ws).kind = V.str "out") = true from decide_eq_true rfl]
      refine iteT ?_
      refine ⟨_, rfl, Or.inl ⟨rfl, _, SqL.of e2⟩, _, rfl, a2, ww, _, _, rfl, rfl, e2, sG _ _ ew, big (by rw [List.length_map, List.length_map]; omega), ?_⟩
      refine k G _ (Same.refl _) (same_beside sG n2) ⟨a1, a2, a3, a4, a5, v4, v5, et, ?_, ?_, ?_, ?_, ?_, d4, d5, ⟨n1, n2, n3, n4, n5⟩, nd⟩
      · rw [upd_ne a12]; exact e1
      · rw [upd_same, ← List.map_append]
        rfl
      · rw [upd_ne a23.symm]; exact e3
      · rw [upd_ne a24.symm]; exact e4
      · rw [upd_ne a25.symm]; exact e5
    | sta ws =>
      rw [show decide (V.str (Ln.sta ws).kind = V.str "in") = false from lit_ne (show decide (("at" : Str) = "in") = false by decide)]
      refine iteF ?_
      refine ⟨_, rfl, rfl, _, rfl, ?_⟩
      rw [show decide (V.str (Ln.sta ws).kind = V.str "out") = false from lit_ne (show decide (("at" : Str) = "out") = false by decide)]
      refine iteF ?_
      refine ⟨_, rfl, rfl, _, rfl, ?_⟩
      rw [show decide (V.str (Ln.sta ws).kind = V.str "at") = true from decide_eq_true rfl]
      refine iteT ?_
      refine ⟨_, rfl, Or.inl ⟨rfl, _, SqL.of e3⟩, _, rfl, a3, ww, _, _, rfl, rfl, e3, sG _ _ ew, big (by rw [List.length_map, List.length_map]; omega), ?_⟩
      refine k G _ (Same.refl _) (same_beside sG n3) ⟨a1, a2, a3, a4, a5, v4, v5, et, ?_, ?_, ?_, ?_, ?_, d4, d5, ⟨n1, n2, n3, n4, n5⟩, nd⟩
      · rw [upd_ne a13]; exact e1
      · rw [upd_ne a23]; exact e2
      · rw [upd_same, ← List.map_append]
        rfl
      · rw [upd_ne a34.symm]; exact e4
      · rw [upd_ne a35.symm]; exact e5
    | use x n =>
      rw [show decide (V.str (Ln.use x n).kind = V.str "in") = false from lit_ne (show decide (("use" : Str) = "in") = false by decide)]
      refine iteF ?_
      refine ⟨_, rfl, rfl, _, rfl, ?_⟩
      rw [show decide (V.str (Ln.use x n).kind = V.str "out") = false from lit_ne (show decide (("use" : Str) = "out") = false by decide)]
      refine iteF ?_
      refine ⟨_, rfl, rfl, _, rfl, ?_⟩
      rw [show decide (V.str (Ln.use x n).kind = V.str "at") = false from lit_ne (show decide (("use" : Str) = "at") = false by decide)]
      refine iteF ?_
      refine ⟨_, rfl, rfl, _, rfl, ?_⟩
      rw [show decide (V.str (Ln.use x n).kind = V.str "use") = true from decide_eq_true rfl]
      refine iteT ?_
      have ew' := sG _ _ ew
      refine ⟨_, rfl, Or.inl ⟨rfl, _, SqL.of e5⟩, _, rfl, ww, _, 0, .str x, rfl, rfl, SqL.of ew', atI_nat (j := 0) rfl, ?_⟩
      refine ⟨_, rfl, ww, _, 1, .str n, rfl, rfl, SqL.of ew', atI_nat (j := 1) rfl, ?_⟩
      refine ⟨Nat.le_of_ble_eq_true rfl, fun p np => ?_⟩
      have nG : G p = none := sG.free np
      have ne5 : p ≠ a5 := (ne_of_none e5 np).symm
      refine ⟨a5, _, _, rfl, rfl, (by rw [upd_ne ne5.symm]; exact e5), Nat.lt_of_le_of_lt (by rw [d5.len, List.length_map]; omega : v5.length ≤ 1000) (by decide), ?_⟩
      refine k (upd G p (.tup [.str x, .str n])) _ (same_upd nG) (same_beside (same_upd2 sG np) (by rw [upd_ne ne5.symm]; exact n5)) ⟨a1, a2, a3, a4, a5, v4, v5 ++ [.ref p], ?_, ?_, ?_, ?_, ?_, ?_, d4.same (same_upd nG), ?_, ?_, nd⟩
      · rw [upd_ne (ne_of_none et nG)]; exact et
      · rw [upd_ne a15, upd_ne (ne_of_none e1 np)]; exact e1
      · rw [upd_ne a25, upd_ne (ne_of_none e2 np)]; exact e2
      · rw [upd_ne a35, upd_ne (ne_of_none e3 np)]; exact e3
      · rw [upd_ne a45, upd_ne (ne_of_none e4 np)]; exact e4
      · rw [upd_same]
      · show DvAll _ _ ((m.calls ++ [(x, n)]).map callD)
        rw [List.map_append]
        refine (d5.same (same_upd nG)).app (.cons (.tup upd_same (.cons (.str (hok x (.head _))) (.cons (.str (hok n (.tail _ (.head _)))) .nil)) (Nat.le_of_ble_eq_true rfl)) .nil)
      · refine ⟨?_, ?_, ?_, ?_, ?_⟩
        · rw [upd_ne (ne_of_none e1 np)]; exact n1
        · rw [upd_ne (ne_of_none e2 np)]; exact n2
        · rw [upd_ne (ne_of_none e3 np)]; exact n3
        · rw [upd_ne (ne_of_none e4 np)]; exact n4
        · rw [upd_ne (ne_of_none e5 np)]; exact n5
    | link x y wa wb na nb =>
      obtain ⟨⟨ia, la⟩, ib, lb⟩ := hnum
      rw [show decide (V.str (Ln.link x y wa wb na nb).kind = V.str "in") = false from lit_ne (show decide (("link" : Str) = "in") = false by decide)]
      refine iteF ?_
      refine ⟨_, rfl, rfl, _, rfl, ?_⟩
      rw [show decide (V.str (Ln.link x y wa wb na nb).kind = V.str "out") = false from lit_ne (show decide (("link" : Str) = "out") = false by decide)]
      refine iteF ?_
      refine ⟨_, rfl, rfl, _, rfl, ?_⟩
      rw [show decide (V.str (Ln.link x y wa wb na nb).kind = V.str "at") = false from lit_ne (show decide (("link" : Str) = "at") = false by decide)]
      refine iteF ?_
      refine ⟨_, rfl, rfl, _, rfl, ?_⟩
      rw [show decide (V.str (Ln.link x y wa wb na nb).kind = V.str "use") = false from lit_ne (show decide (("link" : Str) = "use") = false by decide)]
      refine iteF ?_
      have ew' := sG _ _ ew
      refine ⟨_, rfl, Or.inl ⟨rfl, _, SqL.of e4⟩, _, rfl, ww, _, 0, .str x, rfl, rfl, SqL.of ew', atI_nat (j := 0) rfl, ?_⟩
      refine ⟨_, rfl, ww, _, 1, .str y, rfl, rfl, SqL.of ew', atI_nat (j := 1) rfl, ?_⟩
      refine ⟨_, rfl, ww, _, 2, .str wa, rfl, rfl, SqL.of ew', atI_nat (j := 2) rfl, wa, _, rfl, ia, la, ?_⟩
      refine ⟨_, rfl, ww, _, 3, .str wb, rfl, rfl, SqL.of ew', atI_nat (j := 3) rfl, wb, _, rfl, ib, lb, ?_⟩
      refine ⟨Nat.le_of_ble_eq_true rfl, fun p np => ?_⟩
      have nG : G p = none := sG.free np
      have ne4 : p ≠ a4 := (ne_of_none e4 np).symm
      refine ⟨a4, _, _, rfl, rfl, (by rw [upd_ne ne4.symm]; exact e4), Nat.lt_of_le_of_lt (by rw [d4.len, List.length_map]; omega : v4.length ≤ 1000) (by decide), ?_⟩
      refine k (upd G p (.tup [.str x, .str y, .int na, .int nb])) _ (same_upd nG) (same_beside (same_upd2 sG np) (by rw [upd_ne ne4.symm]; exact n4)) ⟨a1, a2, a3, a4, a5, v4 ++ [.ref p], v5, ?_, ?_, ?_, ?_, ?_, ?_, ?_, d5.same (same_upd nG), ?_, nd⟩
      · rw [upd_ne (ne_of_none et nG)]; exact et
      · rw [upd_ne a14, upd_ne (ne_of_none e1 np)]; exact e1
      · rw [upd_ne a24, upd_ne (ne_of_none e2 np)]; exact e2
      · rw [upd_ne a34, upd_ne (ne_of_none e3 np)]; exact e3
      · rw [upd_same]
      · rw [upd_ne a45.symm, upd_ne (ne_of_none e5 np)]; exact e5
      · show DvAll _ _ ((m.links ++ [(x, y, na, nb)]).map linkD)
        rw [List.map_append]
        refine (d4.same (same_upd nG)).app (.cons (.tup upd_same (.cons (.str (hok x (.head _))) (.cons (.str (hok y (.tail _ (.head _)))) (.cons (.int _) (.cons (.int _) .nil)))) (Nat.le_of_ble_eq_true rfl)) .nil)
      · refine ⟨?_, ?_, ?_, ?_, ?_⟩
        · rw [upd_ne (ne_of_none e1 np)]; exact n1
        · rw [upd_ne (ne_of_none e2 np)]; exact n2
        · rw [upd_ne (ne_of_none e3 np)]; exact n3
        · rw [upd_ne (ne_of_none e4 np)]; exact n4
        · rw [upd_ne (ne_of_none e5 np)]; exact n5
end
end My

namespace My
open PySem PySem.Spec PyProof.Rows L2
local macro_rules | `(tactic| walk_at "side") => `(tactic| first | (dsimp only; omega) | exact ⟨by omega, by omega⟩ | exact Or.inl ⟨by omega, by omega⟩ | exact Or.inr ⟨by omega, by omega⟩ | decide)
local macro_rules | `(tactic| walk_at "sq") => `(tactic| first | assumption | exact SqL.of (by assumption) | exact SqT.of (by assumption) | (refine L2.Same.seq (by assumption) ?_; walk_at "sq") | (refine L2.Same.seqT (by assumption) ?_; walk_at "sq") | exact Or.inl (by walk_at "sq") | exact Or.inr (by walk_at "sq"))
local macro_rules | `(tactic| walk_at "1") => `(tactic| first
  | refine ⟨_, rfl, iteT ?_⟩
  | refine ⟨_, rfl, iteF ?_⟩
  | refine ⟨_, rfl, ?_⟩
  | refine ⟨_, _, rfl, rfl, (by walk_at "side"), ?_⟩
  | refine ⟨_, _, rfl, rfl, ?_⟩
  | refine ⟨_, _, _, _, true, rfl, .ty _, .base (.int _), kit_ty (a := "int") (by decide +kernel), ?_⟩
  | refine ⟨_, _, _, _, false, rfl, .ty _, .base (.int _), kit_ty (a := "int") (by decide +kernel), ?_⟩
  | refine ⟨_, _, rfl, (by walk_at "sq"), ?_⟩
  | refine ⟨_, _, _, _, rfl, rfl, (by walk_at "sq"), (by first | rfl | assumption), ?_⟩
  | refine Or.inl ⟨_, _, _, _, rfl, rfl, (by walk_at "sq"), (by first | rfl | assumption), ?_⟩
  | refine Or.inr (Or.inl ⟨_, _, _, _, rfl, rfl, (by walk_at "sq"), (by first | rfl | assumption), ?_⟩)
  | refine ⟨_, _, rfl, Or.inl ⟨(by walk_at "sq"), ?_⟩⟩
  | refine ⟨rfl, ?_⟩
  | refine iteT ?_
  | refine iteF ?_
  | refine ⟨_, _, _, _, _, rfl, (by assumption), (by assumption), (by assumption), (by assumption), ?_⟩
  | refine Or.inl ⟨_, rfl, ?_⟩
  | refine Or.inr ⟨_, rfl, ?_⟩
  | refine ⟨_, _, rfl, (by walk_at "side"), ?_⟩
  | refine ⟨_, _, rfl, ?_⟩)
local macro_rules | `(tactic| walk_at "fld") => `(tactic| skip)
local macro_rules | `(tactic| walk_at "s") => `(tactic| repeat walk_at "1")
local macro_rules | `(tactic| walk_at "size") => `(tactic| first | exact Nat.le_of_ble_eq_true rfl | (simp only [List.length_map, List.length_append, List.length_cons, List.length_nil]; omega))
local macro_rules | `(tactic| walk_at "new") => `(tactic| (first | refine ⟨(by walk_at "size"), fun p hp => ?_⟩ | refine fun p hp => ?_); (generalize hq : upd _ p _ = H1); (obtain ⟨s, e⟩ := new_facts hp hq); clear hq)
def dm0 (n : Str) : DM := { name := n, inl := [], out := [], sta := [], calls := [], links := [] }
def lnText (l : Ln) : Str := Txt.join " " (l.kind :: l.ws)
/-- a text of one right module -/
structure TextOk (x n : Str) (ls : List Ln) : Prop where
  ne : x ≠ ""
  len : x.length ≤ 10000000
  split : Txt.split x "\n" = (Ln.mod n :: ls).map lnText
  words : ∀ l ∈ Ln.mod n :: ls, Txt.split (lnText l) " " = l.kind :: l.ws ∧ (lnText l).length ≤ 100000
  ok : ∀ l ∈ Ln.mod n :: ls, (∀ w ∈ l.ws, okW w) ∧ l.nums ∧ l.ws.length ≤ 1000 ∧ rightW l.kind l.ws = true
  nomod : ∀ l ∈ ls, l.isMod = false
  stand : ∀ (i : Nat) (l l' : Ln), (Ln.mod n :: ls)[i]? = some l → ls[i]? = some l' → canS l'.kind l.kind = true
  few : ∀ i, DMFew ((ls.take i).foldl Ln.put (dm0 n))
  ln : ls.length ≤ 1000
/-- a module's arguments in one tuple -/
def toldD (m : DM) : PyData := .tuple [.str m.name, strL m.inl, strL m.out, strL m.sta, .list (m.links.map linkD), .list (m.calls.map callD)]
def spToldM : Sp := fun vs H Q _ => ∃ (x n : Str) (ls : List Ln), vs = [.str x, .int 1] ∧ TextOk x n ls ∧ ((∀ w ∈ ((ls.foldl Ln.put (dm0 n)).inl ++ (ls.foldl Ln.put (dm0 n)).out ++ (ls.foldl Ln.put (dm0 n)).sta), okS w = true) ∧ okS (ls.foldl Ln.put (dm0 n)).name = true) ∧
  ∀ H' p t, Same H H' → H' p = some (.lst [.ref t]) → Dv H' (.ref t) (toldD (ls.foldl Ln.put (dm0 n))) → Q (.ref p) H'
theorem ToldAt.dv {G H : Hp} {t : Addr} {m : DM} (h : ToldAt G H t m) (s : Same G H) (few : DMFew m) (ok : (∀ w ∈ (m.inl ++ m.out ++ m.sta), okS w = true) ∧ okS m.name = true) : Dv H (.ref t) (toldD m) := by
  obtain ⟨a1, a2, a3, a4, a5, v4, v5, et, e1, e2, e3, e4, e5, d4, d5, _, _⟩ := h
  have l4 := few.links
  have l5 := few.calls
  exact .tup (s _ _ et) (.cons (.str ok.2) (.cons (.ofStrs e1 (fun x hx => ok.1 x (List.mem_append_left _ (List.mem_append_left _ hx))) (Nat.le_trans few.inl (by decide))) (.cons (.ofStrs e2 (fun x hx => ok.1 x (List.mem_append_left _ (List.mem_append_right _ hx))) (Nat.le_trans few.out (by decide)))
    (.cons (.ofStrs e3 (fun x hx => ok.1 x (List.mem_append_right _ hx)) (Nat.le_trans few.sta (by decide))) (.cons (.lst e4 (d4.same s) (by rw [List.length_map]; omega)) (.cons (.lst e5 (d5.same s) (by rw [List.length_map]; omega)) .nil)))))) (Nat.le_of_ble_eq_true rfl)
theorem kind_mem (l : Ln) : l.kind ∈ kindsS := by cases l <;> (simp only [Ln.kind]; decide)
theorem kind_ne (l : Ln) (h : l.isMod = false) : l.kind ≠ "module" := by
  cases l with
  | mod n => cases h
  | _ => simp only [Ln.kind]; decide
section
variable {P : Program} {w : World} {K : PySem.W.Frag} {mg : Str → Option Value} {base : Heap}
abbrev s_modules_told : Stmt := topS 28
theorem sc_modules_told : FnScope ["text", "many", "told", "last", "at", "line", "kind", "words"] ["text", "many"] (defScope s_modules_told) := ⟨rfl, rfl, rfl, by decide +kernel, rfl, by decide +kernel, by decide +kernel⟩
set_option maxHeartbeats 16000000 in
theorem ok_modules_told (D : Df K mg "modules_told" s_modules_told ["text", "many"]) (T : Txt mg) (o_can_stand : Own P w K mg base "_can_stand" 1 ["kind", "last"] spCanS) (o_is_right : Own P w K mg base "_is_right" 3 ["kind", "words"] spRightW) (o_tell : Own P w K mg base "_tell" 1 ["told", "kind", "words"] spTell) :
    Own P w K mg base "modules_told" 4 ["text", "many"] spToldM := by
  refine D.own sc_modules_told (fun vs H Q E h => ?_) (fun f cdv A outer s H vs Q E hr h => ?_)
  · obtain ⟨_, _, _, rfl, _⟩ := h
    rfl
  · obtain ⟨x, n, ls, rfl, O, okd, k⟩ := h
    refine ⟨_, (pss_cons (ps_if (pt_not (pt_val (pe_callB call_isi (by rfl) T.isinstance (by decide +kernel) (pa_cons (pv 0) (pa_cons (pe_bltn (v := .ty "str") (u := .type "str") (by rfl) T.str (by decide +kernel) rfl) pa_nil)))))
    (pss_one ps_never)
    pss_nil)
  (pss_cons (ps_set (i := 2) sc_modules_told.nd rfl (Or.inl rfl) (pe_lst pa_nil))
  (pss_cons (ps_set (i := 3) sc_modules_told.nd rfl (Or.inl rfl) pe_str)
  (pss_cons (ps_if (pt_cmpR op_eq (pv 0) pe_str (nomark _))
    (pss_one (ps_ret (pv 2)))
    pss_nil)
  (pss_cons (ps_for PassesOwn.never rfl (pi_enum (by rfl) T.enumerate (pa_cons (pe_m1 PySem.F.slot_str_split PySem.F.type_str_split mt_split (pv 0) pe_str) pa_nil)) (pg_tup (by rfl) (pgs_cons (pg_name (i := 4) sc_modules_told.nd rfl (Or.inl rfl)) (pgs_cons (pg_name (i := 5) sc_modules_told.nd rfl (Or.inl rfl)) pgs_nil)))
    (pss_cons (ps_asg (pe_m1 PySem.F.slot_str_split PySem.F.type_str_split mt_split (pv 5) pe_str) (pg_star1 (by rfl) (pgs_cons (pg_name (i := 6) sc_modules_told.nd rfl (Or.inl rfl)) (pgs_cons (pg_name (i := 7) sc_modules_told.nd rfl (Or.inl rfl)) pgs_nil))))
      (pss_cons (ps_if (PW.pt (pw_or (pt_not (pt_val (pe_own o_can_stand (hr.mono (by decide)) (pa_cons (pv 6) (pa_cons (pv 3) pa_nil))))) (pw_or1 (pt_not (pt_val (pe_own o_is_right (hr.mono (by decide)) (pa_cons (pv 6) (pa_cons (pv 7) pa_nil))))))))
        (pss_one ps_never)
        pss_nil)
      (C8.pss_cut (ps_if (pt_cmpR op_eq (pv 6) pe_str (nomark _))
        (pss_cons (ps_if (pt_cmpR op_eq (pe_callB call_len_seq (by rfl) T.len PySem.boot_len (pa_cons (pv 2) pa_nil)) (pv 1) (nomark _))
            (pss_one ps_never)
            pss_nil)
          (pss_one (ps_expr (pe_bm PySem.F.plainAttrs_list PySem.F.slot_list_append PySem.F.type_list_append mt_append (pv 2) (pa_cons (pe_tup (pa_cons (pe_ix ix_list (pv 7) pe_int (fun _ _ => rfl)) (pa_cons (pe_lst pa_nil) (pa_cons (pe_lst pa_nil) (pa_cons (pe_lst pa_nil) (pa_cons (pe_lst pa_nil) (pa_cons (pe_lst pa_nil) pa_nil))))))) pa_nil)))))
        (pss_one (ps_expr (pe_own o_tell (hr.mono (by decide)) (pa_cons (pe_ix ix_list (pv 2) (pe_un un_neg pe_int) (fun _ _ => rfl)) (pa_cons (pv 6) (pa_cons (pv 7) pa_nil)))))))
      (pss_one (ps_set (i := 3) sc_modules_told.nd rfl (Or.inl rfl) (pv 6)))))))
  (pss_one (ps_ret (pv 2)))))))), ?_⟩
    refine ⟨_, rfl, _, _, _, _, true, rfl, .ty _, .base (.str _), kit_ty (a := "str") (by decide +kernel), _, rfl, ?_⟩
    refine iteF ?_
    refine ⟨Nat.le_of_ble_eq_true rfl, fun L nL => ?_⟩
    generalize hq : upd H L _ = H1
    obtain ⟨s1, eL⟩ := new_facts nL hq
    clear hq
    have big : ∀ {m : Nat}, m ≤ 10000002 → m ≤ sizeLine := fun h => Nat.le_trans h (by decide)
    refine ⟨_, rfl, rfl, _, rfl, ?_⟩
    rw [show decide (V.str x = V.str "") = false from lit_ne (decide_eq_false O.ne)]
    refine iteF ?_
    have lx := O.len
    refine ⟨_, rfl, ⟨_, rfl⟩, x, "\n", rfl, rfl, rfl, big (by omega), fun S nS => ?_⟩
    rw [O.split]
    generalize hq : upd H1 S _ = H2
    obtain ⟨s2, eS⟩ := new_facts nS hq
    clear hq
    -- what stands still: all but the list of what is told
    have sH2 : Same H H2 := s1.trans s2
    obtain ⟨G0, hG0⟩ : ∃ G, G = off L H2 := ⟨_, rfl⟩
    have sG0 : Same H G0 := hG0 ▸ off_to sH2 nL
    have sGH : Same G0 H2 := hG0 ▸ off_same
    have nG0 : G0 L = none := hG0 ▸ off_at
    have LS : S ≠ L := (ne_of_none eL nS).symm
    have gS : G0 S = some (.lst (((Ln.mod n :: ls).map lnText).map V.str)) := by
      rw [hG0, off_ne LS]
      exact eS
    have eL2 : H2 L = some (.lst []) := s2 _ _ eL
    refine ⟨S, _, rfl, SqL.of eS, for_it (walk_enum (xs := ((Ln.mod n :: ls).map lnText).map V.str)) (fun i σ' H' => ∃ (G : Hp) (y4 y5 y6 y7 : Option V) (last : Str), σ' = [some (.str x), some (.int 1), some (.ref L), some (.str last), y4, y5, y6, y7] ∧ Same G0 G ∧ Same G H' ∧
      ((i = 0 ∧ last = "" ∧ G L = none ∧ H' L = some (.lst [])) ∨ (∃ (j : Nat) (l : Ln) (t : Addr), i = j + 1 ∧ (Ln.mod n :: ls)[j]? = some l ∧ last = l.kind ∧ G L = some (.lst [.ref t]) ∧ ToldAt G H' t ((ls.take j).foldl Ln.put (dm0 n))))) ?_ ?_ ?_ ?_⟩
    · exact ⟨G0, none, none, none, none, "", rfl, Same.refl _, sGH, Or.inl ⟨rfl, rfl, nG0, eL2⟩⟩
    · rintro i σ' H' hi ⟨G, y4, y5, y6, y7, last, rfl, g1, g2, _⟩
      exact SqL.of (g2 _ _ (g1 _ _ gS))
    · rintro i v σ' Ha Hb hi ⟨G, y4, y5, y6, y7, last, rfl, g1, g2, hcase⟩ ⟨T', xi, yi, rfl, nT, rfl, h1, h2⟩
      obtain rfl := Option.some.inj h1
      have h2 : (((Ln.mod n :: ls).map lnText).map V.str)[i]? = some yi := h2
      rw [List.getElem?_map, List.getElem?_map] at h2
      cases hl : (Ln.mod n :: ls)[i]? with
      | none => rw [hl] at h2; cases h2
      | some l =>
        rw [hl] at h2
        obtain rfl := Option.some.inj (show some (V.str (lnText l)) = some yi from h2)
        have lm : l ∈ Ln.mod n :: ls := List.mem_of_getElem? hl
        obtain ⟨hsp, hlen⟩ := O.words l lm
        obtain ⟨hw, hnum, hwl, hrt⟩ := O.ok l lm
        generalize hq : upd Ha T' _ = Hb
        obtain ⟨s3, eT⟩ := new_facts nT hq
        clear hq
        refine ⟨T', _, rfl, SqT.of eT, rfl, _, _, rfl, _, _, rfl, rfl, ?_⟩
        refine ⟨_, rfl, ⟨_, rfl⟩, lnText l, " ", rfl, rfl, rfl, big (by omega), fun S2 nS2 => ?_⟩
        rw [hsp]
        generalize hq : upd Hb S2 _ = Hc
        obtain ⟨s4, eS2⟩ := new_facts nS2 hq
        clear hq
        refine ⟨S2, _, _, rfl, SqL.of eS2, fun ww nw => ?_⟩
        generalize hq : upd Hc ww _ = Hd
        obtain ⟨s5, ew⟩ := new_facts nw hq
        clear hq
        have s34 := s3.trans s4
        have sAd := s34.trans s5
        have nwa : Ha ww = none := s34.free nw
        refine ⟨_, _, rfl, _, _, rfl, rfl, ?_⟩
        -- both are right
        have hst : (last = "" ∨ last ∈ kindsS) ∧ canS l.kind last = true := by
          rcases hcase with ⟨rfl, rfl, _⟩ | ⟨j, l0, t, rfl, hl0, rfl, _⟩
          · obtain rfl := Option.some.inj (show some (Ln.mod n) = some l from hl)
            exact ⟨Or.inl rfl, show canS "module" "" = true by decide⟩
          · exact ⟨Or.inr (kind_mem l0), O.stand j l0 l hl0 (by simpa using hl)⟩
        refine ⟨_, rfl, _, rfl, l.kind, last, rfl, hst.1, _, rfl, ?_⟩
        rw [hst.2]
        refine iteF ?_
        refine ⟨_, rfl, _, rfl, l.kind, ww, l.ws, rfl, ew, by omega, hw, fun He s6 => ⟨_, rfl, ?_⟩⟩
        rw [hrt]
        refine iteF ?_
        have sAe := sAd.trans s6
        have gAe := g2.trans sAe
        have ewe := s6 _ _ ew
        refine ⟨fun σ' H' => ∃ (G : Hp), σ' = [some (.str x), some (.int 1), some (.ref L), some (.str last), some (.int (i : Nat)), some (.str (lnText l)), some (.str l.kind), some (.ref ww)] ∧ Same G0 G ∧ Same G H' ∧
          (∃ (t : Addr), G L = some (.lst [.ref t]) ∧ ToldAt G H' t ((ls.take i).foldl Ln.put (dm0 n))), ?_, ?_⟩
        · refine ⟨_, rfl, rfl, _, rfl, ?_⟩
          rcases hcase with ⟨rfl, rfl, gL, hL⟩ | ⟨j, l0, t, rfl, hl0, rfl, gL, hT⟩
          · obtain rfl := Option.some.inj (show some (Ln.mod n) = some l from hl)
            rw [show decide (V.str (Ln.mod n).kind = V.str "module") = true from decide_eq_true rfl]
            refine iteT ?_
            have eLe : He L = some (.lst []) := sAe _ _ hL
            refine ⟨_, rfl, L, [], rfl, Or.inl (SqL.of eLe), _, rfl, rfl, _, rfl, ?_⟩
            refine iteF ?_
            refine ⟨_, rfl, Or.inl ⟨rfl, _, SqL.of eLe⟩, _, rfl, ww, _, 0, .str n, rfl, rfl, SqL.of ewe, atI_nat (j := 0) rfl, ?_⟩
            refine ⟨Nat.zero_le _, fun b1 m1 => ?_⟩
            generalize hq : upd He b1 _ = Hf
            obtain ⟨t1, c1⟩ := new_facts m1 hq
            clear hq
            refine ⟨Nat.zero_le _, fun b2 m2 => ?_⟩
            generalize hq : upd Hf b2 _ = Hg
            obtain ⟨t2, c2⟩ := new_facts m2 hq
            clear hq
            refine ⟨Nat.zero_le _, fun b3 m3 => ?_⟩
            generalize hq : upd Hg b3 _ = Hh
            obtain ⟨t3, c3⟩ := new_facts m3 hq
            clear hq
            refine ⟨Nat.zero_le _, fun b4 m4 => ?_⟩
            generalize hq : upd Hh b4 _ = Hi
            obtain ⟨t4, c4⟩ := new_facts m4 hq
            clear hq
            refine ⟨Nat.zero_le _, fun b5 m5 => ?_⟩
            generalize hq : upd Hi b5 _ = Hj
            obtain ⟨t5, c5⟩ := new_facts m5 hq
            clear hq
            refine ⟨Nat.le_of_ble_eq_true rfl, fun t nt => ?_⟩
            generalize hq : upd Hj t _ = Hk
            obtain ⟨t6, c6⟩ := new_facts nt hq
            clear hq
            have u5 := t5.trans t6
            have u4 := t4.trans u5
            have u3 := t3.trans u4
            have u2 := t2.trans u3
            have u1 := t1.trans u2
            have eLk : Hk L = some (.lst []) := u1 _ _ eLe
            have gAk := gAe.trans u1
            refine ⟨L, [], .ref t, rfl, rfl, eLk, by decide, ?_⟩
            have d1 := u2 _ _ c1
            have d2 := u3 _ _ c2
            have d3 := u4 _ _ c3
            have d4 := u5 _ _ c4
            have d5 := t6 _ _ c5
            have L1 : L ≠ b1 := ne_of_none eLe m1
            have L2 : L ≠ b2 := ne_of_none (t1 _ _ eLe) m2
            have L3 : L ≠ b3 := ne_of_none ((t1.trans t2) _ _ eLe) m3
            have L4 : L ≠ b4 := ne_of_none ((t1.trans (t2.trans t3)) _ _ eLe) m4
            have L5 : L ≠ b5 := ne_of_none ((t1.trans (t2.trans (t3.trans t4))) _ _ eLe) m5
            have Lt : L ≠ t := ne_of_none ((t1.trans (t2.trans (t3.trans (t4.trans t5)))) _ _ eLe) nt
            have g1e : G b1 = none := gAe.free m1
            have g2e : G b2 = none := (gAe.trans t1).free m2
            have g3e : G b3 = none := (gAe.trans (t1.trans t2)).free m3
            have g4e : G b4 = none := (gAe.trans (t1.trans (t2.trans t3))).free m4
            have g5e : G b5 = none := (gAe.trans (t1.trans (t2.trans (t3.trans t4)))).free m5
            have gte : G t = none := (gAe.trans (t1.trans (t2.trans (t3.trans (t4.trans t5))))).free nt
            have nd : [b1, b2, b3, b4, b5].Nodup := by
              have q12 : b1 ≠ b2 := ne_of_none c1 m2
              have q13 : b1 ≠ b3 := ne_of_none (t2 _ _ c1) m3
              have q14 : b1 ≠ b4 := ne_of_none ((t2.trans t3) _ _ c1) m4
              have q15 : b1 ≠ b5 := ne_of_none ((t2.trans (t3.trans t4)) _ _ c1) m5
              have q23 : b2 ≠ b3 := ne_of_none c2 m3
              have q24 : b2 ≠ b4 := ne_of_none (t3 _ _ c2) m4
              have q25 : b2 ≠ b5 := ne_of_none ((t3.trans t4) _ _ c2) m5
              have q34 : b3 ≠ b4 := ne_of_none c3 m4
              have q35 : b3 ≠ b5 := ne_of_none (t4 _ _ c3) m5
              have q45 : b4 ≠ b5 := ne_of_none c4 m5
              simp [q12, q13, q14, q15, q23, q24, q25, q34, q35, q45]
            have tb : ∀ {b : Addr} {o : HO}, Hj b = some o → b ≠ t := fun e => ne_of_none e nt
            have z1 := tb ((t2.trans (t3.trans (t4.trans t5))) _ _ c1)
            have z2 := tb ((t3.trans (t4.trans t5)) _ _ c2)
            have z3 := tb ((t4.trans t5) _ _ c3)
            have z4 := tb (t5 _ _ c4)
            have z5 := tb c5
            refine ⟨upd (upd G t (.tup [.str n, .ref b1, .ref b2, .ref b3, .ref b4, .ref b5])) L (.lst [.ref t]), rfl, ?_, ?_, t, upd_same, b1, b2, b3, b4, b5, [], [], ?_, ?_, ?_, ?_, ?_, ?_, .nil, .nil, ⟨?_, ?_, ?_, ?_, ?_⟩, nd⟩
            · exact (g1.trans (same_upd gte)).trans (same_upd (by rw [upd_ne Lt]; exact gL))
            · intro c o e
              by_cases w1 : c = L
              · rw [w1, upd_same] at e
                rw [w1, upd_same]
                exact e
              · rw [upd_ne w1] at e ⊢
                by_cases w2 : c = t
                · rw [w2, upd_same] at e
                  rw [w2, c6]
                  exact e
                · rw [upd_ne w2] at e
                  exact gAk _ _ e
            · rw [upd_ne Lt.symm, upd_same]
              rfl
            · rw [upd_ne L1.symm]; exact d1
            · rw [upd_ne L2.symm]; exact d2
            · rw [upd_ne L3.symm]; exact d3
            · rw [upd_ne L4.symm]; exact d4
            · rw [upd_ne L5.symm]; exact d5
            · rw [upd_ne L1.symm, upd_ne z1]; exact g1e
            · rw [upd_ne L2.symm, upd_ne z2]; exact g2e
            · rw [upd_ne L3.symm, upd_ne z3]; exact g3e
            · rw [upd_ne L4.symm, upd_ne z4]; exact g4e
            · rw [upd_ne L5.symm, upd_ne z5]; exact g5e
          · have hl' : ls[j]? = some l := by simpa using hl
            have nm := O.nomod l (List.mem_of_getElem? hl')
            rw [show decide (V.str l.kind = V.str "module") = false from lit_ne (decide_eq_false (kind_ne l nm))]
            refine iteF ?_
            have eLe : He L = some (.lst [.ref t]) := gAe _ _ gL
            refine ⟨_, rfl, _, rfl, L, _, _, .ref t, rfl, rfl, SqL.of eLe, atI_last [] (V.ref t), ?_⟩
            obtain ⟨a1, a2, a3, a4, a5, v4, v5, et, e1, e2, e3, e4, e5, d4, d5, ⟨n1, n2, n3, n4, n5⟩, nd⟩ := hT
            -- the words stand still from here on
            have wne : ∀ {b : Addr} {o : HO}, Ha b = some o → b ≠ ww := fun e => ne_of_none e nwa
            have sGw : Same (upd G ww (.lst (l.ws.map V.str))) He := fun c o e => by
              by_cases w1 : c = ww
              · rw [w1, upd_same] at e
                rw [w1, ewe]
                exact e
              · rw [upd_ne w1] at e
                exact gAe _ _ e
            have nGw : G ww = none := g2.free nwa
            have sGG : Same G (upd G ww (.lst (l.ws.map V.str))) := same_upd nGw
            refine ⟨_, rfl, _, rfl, t, ww, l, upd G ww (.lst (l.ws.map V.str)), _, rfl, sGw, ⟨a1, a2, a3, a4, a5, v4, v5, sGG _ _ et, sAe _ _ e1, sAe _ _ e2, sAe _ _ e3, sAe _ _ e4, sAe _ _ e5, d4.same sGG, d5.same sGG, ⟨?_, ?_, ?_, ?_, ?_⟩, nd⟩, upd_same, fun y hy => (hw y hy).1, hnum, nm, hwl, O.few j, fun G' H' q1 q2 q3 => ?_⟩
            · rw [upd_ne (wne e1)]; exact n1
            · rw [upd_ne (wne e2)]; exact n2
            · rw [upd_ne (wne e3)]; exact n3
            · rw [upd_ne (wne e4)]; exact n4
            · rw [upd_ne (wne e5)]; exact n5
            · refine ⟨G', rfl, (g1.trans sGG).trans q1, q2, t, (sGG.trans q1) _ _ gL, ?_⟩
              rw [List.take_add_one, hl', Option.toList_some, List.foldl_append]
              exact q3
        · rintro σ' H' ⟨G', rfl, q1, q2, t, gL', hT'⟩
          exact ⟨_, rfl, G', _, _, _, _, l.kind, rfl, q1, q2, Or.inr ⟨i, l, t, rfl, hl, rfl, gL', hT'⟩⟩
    · rintro σ' H' ⟨G, y4, y5, y6, y7, last, rfl, g1, g2, hcase⟩
      rcases hcase with ⟨h0, _⟩ | ⟨j, l0, t, hj, hl0, _, gL, hT⟩
      · simp at h0
      · have ej : j = ls.length := by
          rw [List.length_map, List.length_map, List.length_cons] at hj
          omega
        rw [ej, List.take_length] at hT
        have fw := O.few ls.length
        rw [List.take_length] at fw
        exact ⟨_, rfl, k H' L t ((sG0.trans g1).trans g2) (g2 _ _ gL) (hT.dv g2 fw okd)⟩
end
end My

namespace My
open PySem PySem.Spec PyProof.Rows L2
local macro_rules | `(tactic| walk_at "side") => `(tactic| first | (dsimp only; omega) | exact ⟨by omega, by omega⟩ | exact Or.inl ⟨by omega, by omega⟩ | exact Or.inr ⟨by omega, by omega⟩ | decide)
local macro_rules | `(tactic| walk_at "sq") => `(tactic| first | assumption | exact SqL.of (by assumption) | exact SqT.of (by assumption) | (refine L2.Same.seq (by assumption) ?_; walk_at "sq") | (refine L2.Same.seqT (by assumption) ?_; walk_at "sq") | exact Or.inl (by walk_at "sq") | exact Or.inr (by walk_at "sq"))
local macro_rules | `(tactic| walk_at "1") => `(tactic| first
  | refine ⟨_, rfl, iteT ?_⟩
  | refine ⟨_, rfl, iteF ?_⟩
  | refine ⟨_, rfl, ?_⟩
  | refine ⟨_, _, rfl, rfl, (by walk_at "side"), ?_⟩
  | refine ⟨_, _, rfl, rfl, ?_⟩
  | refine ⟨_, _, _, _, true, rfl, .ty _, .base (.int _), kit_ty (a := "int") (by decide +kernel), ?_⟩
  | refine ⟨_, _, _, _, false, rfl, .ty _, .base (.int _), kit_ty (a := "int") (by decide +kernel), ?_⟩
  | refine ⟨_, _, rfl, (by walk_at "sq"), ?_⟩
  | refine ⟨_, _, _, _, rfl, rfl, (by walk_at "sq"), (by first | rfl | assumption), ?_⟩
  | refine Or.inl ⟨_, _, _, _, rfl, rfl, (by walk_at "sq"), (by first | rfl | assumption), ?_⟩
  | refine Or.inr (Or.inl ⟨_, _, _, _, rfl, rfl, (by walk_at "sq"), (by first | rfl | assumption), ?_⟩)
  | refine ⟨_, _, rfl, Or.inl ⟨(by walk_at "sq"), ?_⟩⟩
  | refine ⟨rfl, ?_⟩
  | refine iteT ?_
  | refine iteF ?_
  | refine ⟨_, _, _, _, _, rfl, (by assumption), (by assumption), (by assumption), (by assumption), ?_⟩
  | refine Or.inl ⟨_, rfl, ?_⟩
  | refine Or.inr ⟨_, rfl, ?_⟩
  | refine ⟨_, _, rfl, (by walk_at "side"), ?_⟩
  | refine ⟨_, _, rfl, ?_⟩)
local macro_rules | `(tactic| walk_at "fld") => `(tactic| skip)
local macro_rules | `(tactic| walk_at "s") => `(tactic| repeat walk_at "1")
local macro_rules | `(tactic| walk_at "size") => `(tactic| first | exact Nat.le_of_ble_eq_true rfl | (simp only [List.length_map, List.length_append, List.length_cons, List.length_nil]; omega))
local macro_rules | `(tactic| walk_at "new") => `(tactic| (first | refine ⟨(by walk_at "size"), fun p hp => ?_⟩ | refine fun p hp => ?_); (generalize hq : upd _ p _ = H1); (obtain ⟨s, e⟩ := new_facts hp hq); clear hq)
/-- the class of modules lets its attributes be set -/
structure ModCls (K : PySem.W.Frag) (C : Addr) : Prop where
  cl : Cls K C
  n0 : NoAttr K C "name"
  n1 : NoAttr K C "inlets"
  n2 : NoAttr K C "outlets"
  n3 : NoAttr K C "stations"
  n4 : NoAttr K C "links"
  n5 : NoAttr K C "calls"
def rTupOf (K : PySem.W.Frag) : List V → Hp → VK → Prop := fun xs H Q => ∃ p ys, xs = [.ref p] ∧ ((SqL K H p ys ∧ ∀ l, H l = none → Q (.ref l) (upd H l (.tup ys))) ∨ (SqT K H p ys ∧ Q (.ref p) H))
theorem call_tupleN {X : Cx} : CallR X (.type "tuple") (rTupOf X.K) := call_tuple_of
/-- tuple(xs), xs a list or a tuple of data: what it gives stands still, too -/
theorem rd_tupleOf {K : PySem.W.Frag} {G H : Hp} {v : V} {d : PyData} {Q : VK} (s : Same G H) (hv : Dv G v d) (hq : isSeqD d = true)
    (k : ∀ H' G' t, Same H H' → Same G G' → Same G' H' → (∀ c o, G c = none → H c = some o → G' c = none) → Dv G' (.ref t) (.tuple (itemsD d)) → Q (.ref t) H') :
    rTupOf K [v] H Q := by
  cases hv with
  | @lst a xs ds e h sm =>
    refine ⟨a, xs, rfl, Or.inl ⟨SqL.of (s _ _ e), fun l nl => ?_⟩⟩
    have sg : Same G (upd G l (.tup xs)) := same_upd (s.free nl)
    refine k _ (upd G l (.tup xs)) l (same_upd nl) sg (fun c o e => ?_) (fun c o e1 e2 => ?_) (.tup upd_same (h.same sg) sm)
    · by_cases q : c = l
      · rw [q, upd_same] at e ⊢
        exact e
      · rw [upd_ne q] at e ⊢
        exact s _ _ e
    · rw [upd_ne (ne_of_none e2 nl)]
      exact e1
  | @tup a xs ds e h sm => exact ⟨a, xs, rfl, Or.inr ⟨SqT.of (s _ _ e), k H G a (Same.refl _) (Same.refl _) s (fun _ _ e _ => e) (.tup e h sm)⟩⟩
  | _ => cases hq
/-- a module that is made stands at p -/
structure ModAt (C : Addr) (H : Hp) (p : Addr) (v0 : V) (d1 d2 d3 d4 d5 : PyData) : Prop where
  ex : ∃ (dx t1 t2 t3 t4 t5 : Addr), H p = some (.ins C dx [("name", v0), ("inlets", .ref t1), ("outlets", .ref t2), ("stations", .ref t3), ("links", .ref t4), ("calls", .ref t5)]) ∧
    Dv H (.ref t1) (.tuple (itemsD d1)) ∧ Dv H (.ref t2) (.tuple (itemsD d2)) ∧ Dv H (.ref t3) (.tuple (itemsD d3)) ∧ Dv H (.ref t4) (.tuple (itemsD d4)) ∧ Dv H (.ref t5) (.tuple (itemsD d5))
theorem wordM_none {n i o s l c : PyData} (h : wordM n i o s l c = none) : isSeqD i = true ∧ isSeqD o = true ∧ isSeqD s = true ∧ isSeqD l = true ∧ isSeqD c = true := by
  unfold wordM at h
  split at h
  · split at h
    · cases h
    · rename_i e
      have := wordN_none e
      split at h
      · rename_i e1
        split at h
        · rename_i e2
          exact ⟨(this _ (.head _)).1, (this _ (.tail _ (.head _))).1, (this _ (.tail _ (.tail _ (.head _)))).1, (Bool.and_eq_true_iff.mp e1).1, (Bool.and_eq_true_iff.mp e2).1⟩
        · cases h
      · cases h
  · cases h
section
variable {P : Program} {w : World} {K : PySem.W.Frag} {mg : Str → Option Value} {base : Heap} {C : Addr}
abbrev s_Module_init : Stmt := inClass (topS 36) 0
theorem sc_Module_init : FnScope ["self", "name", "inlets", "outlets", "stations", "links", "calls", "word"] ["self", "name", "inlets", "outlets", "stations", "links", "calls"] (defScope s_Module_init) := ⟨rfl, rfl, rfl, by decide +kernel, rfl, by decide +kernel, by decide +kernel⟩
/-- a module is made of right arguments -/
def spInitG (C : Addr) : Sp := fun vs H Q _ => ∃ (H0 : Hp) (p dx : Addr) (v0 v1 v2 v3 v4 v5 : V) (d0 d1 d2 d3 d4 d5 : PyData), vs = [.ref p, v0, v1, v2, v3, v4, v5] ∧ H0 p = none ∧ Same H0 H ∧ H p = some (.ins C dx []) ∧
  Dv H0 v0 d0 ∧ Dv H0 v1 d1 ∧ Dv H0 v2 d2 ∧ Dv H0 v3 d3 ∧ Dv H0 v4 d4 ∧ Dv H0 v5 d5 ∧ (itemsD d5).all labOk = true ∧ wordM d0 d1 d2 d3 d4 d5 = none ∧
  (∀ H', Same H0 H' → ModAt C H' p v0 d1 d2 d3 d4 d5 → Q .non H')
set_option maxHeartbeats 16000000 in
theorem ok_init {f1 : Addr} {fd : FuncData} {u : V} (F : FunD K "__init__" "Module.__init__" (defArgs s_Module_init) (defBody s_Module_init) (defScope s_Module_init) [u] [] f1 fd) (R : ModCls K C) (T : Txt mg)
    (o_wrong_argument : Own P w K mg base "_wrong_argument" 5 ["name", "inlets", "outlets", "stations", "links", "calls"] spWrongM) : FnOk P w K mg base CX0 6 f1 fd ["self", "name", "inlets", "outlets", "stations", "links", "calls"] (spInitG C) := by
  refine F.ok sc_Module_init (fun vs H Q E h => ?_) (fun cdv A outer s H vs Q E hr h => ?_)
  · obtain ⟨_, _, _, _, _, _, _, _, _, _, _, _, _, _, _, rfl, _⟩ := h
    rfl
  · obtain ⟨H0, p, dx, v0, v1, v2, v3, v4, v5, d0, d1, d2, d3, d4, d5, rfl, hp0, s0, hp, h0, h1, h2, h3, h4, h5, hl, hw, kQ⟩ := h
    refine ⟨_, (pss_cons (ps_set (i := 7) sc_Module_init.nd rfl (Or.inl rfl) (pe_own o_wrong_argument (hr.mono (by decide)) (pa_cons (pv 1) (pa_cons (pv 2) (pa_cons (pv 3) (pa_cons (pv 4) (pa_cons (pv 5) (pa_cons (pv 6) pa_nil))))))))
  (pss_cons (ps_if (pt_cmpR op_notN (pv 7) pe_non (nomark _))
    (pss_one ps_never)
    pss_nil)
  (pss_cons (ps_fld (pv 0) (pv 1) rfl)
  (pss_cons (ps_fld (pv 0) (pe_callTy call_tupleN (by rfl) T.tuple (by decide +kernel) (pa_cons (pv 2) pa_nil)) rfl)
  (pss_cons (ps_fld (pv 0) (pe_callTy call_tupleN (by rfl) T.tuple (by decide +kernel) (pa_cons (pv 3) pa_nil)) rfl)
  (pss_cons (ps_fld (pv 0) (pe_callTy call_tupleN (by rfl) T.tuple (by decide +kernel) (pa_cons (pv 4) pa_nil)) rfl)
  (pss_cons (ps_fld (pv 0) (pe_callTy call_tupleN (by rfl) T.tuple (by decide +kernel) (pa_cons (pv 5) pa_nil)) rfl)
  (pss_one (ps_fld (pv 0) (pe_callTy call_tupleN (by rfl) T.tuple (by decide +kernel) (pa_cons (pv 6) pa_nil)) rfl))))))))), ?_⟩
    refine ⟨_, rfl, _, rfl, _, rfl, _, rfl, _, rfl, _, rfl, v0, v1, v2, v3, v4, v5, d0, d1, d2, d3, d4, d5, rfl, h0.same s0, h1.same s0, h2.same s0, h3.same s0, h4.same s0, h5.same s0, hl, fun H1 s1 => ?_⟩
    have s01 := s0.trans s1
    rw [hw]
    obtain ⟨q1, q2, q3, q4, q5⟩ := wordM_none hw
    refine ⟨_, rfl, rfl, _, rfl, ?_⟩
    refine iteF ?_
    have hp1 : H1 p = some (.ins C dx []) := s1 _ _ hp
    refine ⟨_, rfl, _, rfl, p, C, dx, _, rfl, hp1, R.cl, R.n0, (by show 0 < 1000; decide), ?_⟩
    generalize hq : upd H1 p _ = H2
    obtain ⟨e2, o2⟩ := upd_facts hq
    clear hq
    have sg2 : Same H0 H2 := fun c o e => by
      rw [o2 _ (ne_of_none e hp0)]
      exact s01 _ _ e
    clear s01 o2 s1 s0 hp1 hp
    -- inlets
    refine ⟨_, rfl, ?_⟩
    dsimp only [tNil]
    refine rd_tupleOf sg2 h1 q1 fun H3 G3 t1 s3 sg3 gh3 nn3 i1 => ?_
    have p3 : G3 p = none := nn3 _ _ hp0 e2
    refine ⟨_, rfl, p, C, dx, _, rfl, s3 _ _ e2, R.cl, R.n1, (by show 1 < 1000; decide), ?_⟩
    generalize hq : upd H3 p _ = H4
    obtain ⟨e4, o4⟩ := upd_facts hq
    clear hq
    have sg4 : Same G3 H4 := fun c o e => by
      rw [o4 _ (ne_of_none e p3)]
      exact gh3 _ _ e
    clear o4 gh3 nn3 s3 sg2 e2
    -- outlets
    refine ⟨_, rfl, ?_⟩
    dsimp only [tNil]
    refine rd_tupleOf sg4 (h2.same sg3) q2 fun H5 G5 t2 s5 sg5 gh5 nn5 i2 => ?_
    have p5 : G5 p = none := nn5 _ _ p3 e4
    refine ⟨_, rfl, p, C, dx, _, rfl, s5 _ _ e4, R.cl, R.n2, (by show 2 < 1000; decide), ?_⟩
    generalize hq : upd H5 p _ = H6
    obtain ⟨e6, o6⟩ := upd_facts hq
    clear hq
    have sg6 : Same G5 H6 := fun c o e => by
      rw [o6 _ (ne_of_none e p5)]
      exact gh5 _ _ e
    clear o6 gh5 nn5 s5 sg4 e4
    have i1 := i1.same sg5
    have sg3 := sg3.trans sg5
    clear sg5
    -- stations
    refine ⟨_, rfl, ?_⟩
    dsimp only [tNil]
    refine rd_tupleOf sg6 (h3.same sg3) q3 fun H7 G7 t3 s7 sg7 gh7 nn7 i3 => ?_
    have p7 : G7 p = none := nn7 _ _ p5 e6
    refine ⟨_, rfl, p, C, dx, _, rfl, s7 _ _ e6, R.cl, R.n3, (by show 3 < 1000; decide), ?_⟩
    generalize hq : upd H7 p _ = H8
    obtain ⟨e8, o8⟩ := upd_facts hq
    clear hq
    have sg8 : Same G7 H8 := fun c o e => by
      rw [o8 _ (ne_of_none e p7)]
      exact gh7 _ _ e
    clear o8 gh7 nn7 s7 sg6 e6
    have i1 := i1.same sg7
    have i2 := i2.same sg7
    have sg3 := sg3.trans sg7
    clear sg7
    -- links
    refine ⟨_, rfl, ?_⟩
    dsimp only [tNil]
    refine rd_tupleOf sg8 (h4.same sg3) q4 fun H9 G9 t4 s9 sg9 gh9 nn9 i4 => ?_
    have p9 : G9 p = none := nn9 _ _ p7 e8
    refine ⟨_, rfl, p, C, dx, _, rfl, s9 _ _ e8, R.cl, R.n4, (by show 4 < 1000; decide), ?_⟩
    generalize hq : upd H9 p _ = H10
    obtain ⟨e10, o10⟩ := upd_facts hq
    clear hq
    have sg10 : Same G9 H10 := fun c o e => by
      rw [o10 _ (ne_of_none e p9)]
      exact gh9 _ _ e
    clear o10 gh9 nn9 s9 sg8 e8
    have i1 := i1.same sg9
    have i2 := i2.same sg9
    have i3 := i3.same sg9
    have sg3 := sg3.trans sg9
    clear sg9
    -- calls
    refine ⟨_, rfl, ?_⟩
    dsimp only [tNil]
    refine rd_tupleOf sg10 (h5.same sg3) q5 fun H11 G11 t5 s11 sg11 gh11 nn11 i5 => ?_
    have p11 : G11 p = none := nn11 _ _ p9 e10
    refine ⟨_, rfl, p, C, dx, _, rfl, s11 _ _ e10, R.cl, R.n5, (by show 5 < 1000; decide), ?_⟩
    generalize hq : upd H11 p _ = H12
    obtain ⟨e12, o12⟩ := upd_facts hq
    clear hq
    have sg12 : Same G11 H12 := fun c o e => by
      rw [o12 _ (ne_of_none e p11)]
      exact gh11 _ _ e
    have sg3 := sg3.trans sg11
    exact kQ H12 (sg3.trans sg12) ⟨dx, t1, t2, t3, t4, t5, e12, (i1.same sg11).same sg12, (i2.same sg11).same sg12, (i3.same sg11).same sg12, (i4.same sg11).same sg12, i5.same sg12⟩
end
end My

namespace My
open PySem PySem.Spec PyProof.Rows L2
local macro_rules | `(tactic| walk_at "side") => `(tactic| first | (dsimp only; omega) | exact ⟨by omega, by omega⟩ | exact Or.inl ⟨by omega, by omega⟩ | exact Or.inr ⟨by omega, by omega⟩ | decide)
local macro_rules | `(tactic| walk_at "sq") => `(tactic| first | assumption | exact SqL.of (by assumption) | exact SqT.of (by assumption) | (refine L2.Same.seq (by assumption) ?_; walk_at "sq") | (refine L2.Same.seqT (by assumption) ?_; walk_at "sq") | exact Or.inl (by walk_at "sq") | exact Or.inr (by walk_at "sq"))
local macro_rules | `(tactic| walk_at "1") => `(tactic| first
  | refine ⟨_, rfl, iteT ?_⟩
  | refine ⟨_, rfl, iteF ?_⟩
  | refine ⟨_, rfl, ?_⟩
  | refine ⟨_, _, rfl, rfl, (by walk_at "side"), ?_⟩
  | refine ⟨_, _, rfl, rfl, ?_⟩
  | refine ⟨_, _, _, _, true, rfl, .ty _, .base (.int _), kit_ty (a := "int") (by decide +kernel), ?_⟩
  | refine ⟨_, _, _, _, false, rfl, .ty _, .base (.int _), kit_ty (a := "int") (by decide +kernel), ?_⟩
  | refine ⟨_, _, rfl, (by walk_at "sq"), ?_⟩
  | refine ⟨_, _, _, _, rfl, rfl, (by walk_at "sq"), (by first | rfl | assumption), ?_⟩
  | refine Or.inl ⟨_, _, _, _, rfl, rfl, (by walk_at "sq"), (by first | rfl | assumption), ?_⟩
  | refine Or.inr (Or.inl ⟨_, _, _, _, rfl, rfl, (by walk_at "sq"), (by first | rfl | assumption), ?_⟩)
  | refine ⟨_, _, rfl, Or.inl ⟨(by walk_at "sq"), ?_⟩⟩
  | refine ⟨rfl, ?_⟩
  | refine iteT ?_
  | refine iteF ?_
  | refine ⟨_, _, _, _, _, rfl, (by assumption), (by assumption), (by assumption), (by assumption), ?_⟩
  | refine Or.inl ⟨_, rfl, ?_⟩
  | refine Or.inr ⟨_, rfl, ?_⟩
  | refine ⟨_, _, rfl, (by walk_at "side"), ?_⟩
  | refine ⟨_, _, rfl, ?_⟩)
local macro_rules | `(tactic| walk_at "fld") => `(tactic| skip)
local macro_rules | `(tactic| walk_at "s") => `(tactic| repeat walk_at "1")
local macro_rules | `(tactic| walk_at "size") => `(tactic| first | exact Nat.le_of_ble_eq_true rfl | (simp only [List.length_map, List.length_append, List.length_cons, List.length_nil]; omega))
local macro_rules | `(tactic| walk_at "new") => `(tactic| (first | refine ⟨(by walk_at "size"), fun p hp => ?_⟩ | refine fun p hp => ?_); (generalize hq : upd _ p _ = H1); (obtain ⟨s, e⟩ := new_facts hp hq); clear hq)
instance decDM : DecidableEq DM := fun a b =>
  if h : a.name = b.name ∧ a.inl = b.inl ∧ a.out = b.out ∧ a.sta = b.sta ∧ a.calls = b.calls ∧ a.links = b.links then
    isTrue (by
      obtain ⟨h1, h2, h3, h4, h5, h6⟩ := h
      obtain ⟨_, _, _, _, _, _⟩ := a
      obtain ⟨_, _, _, _, _, _⟩ := b
      dsimp only at h1 h2 h3 h4 h5 h6
      subst h1 h2 h3 h4 h5 h6
      rfl)
  else isFalse fun q => h (by
    subst q
    exact ⟨rfl, rfl, rfl, rfl, rfl, rfl⟩)
theorem eqvAll_map {α : Type} [DecidableEq α] (f : α → PyData) (h : ∀ x y, PyData.eqv (f x) (f y) = decide (x = y)) : ∀ xs ys : List α, PyData.eqvAll (xs.map f) (ys.map f) = decide (xs = ys)
  | [], [] => by simp [PyData.eqvAll]
  | [], y :: ys => by simp [PyData.eqvAll]
  | x :: xs, [] => by simp [PyData.eqvAll]
  | x :: xs, y :: ys => by
    rw [List.map_cons, List.map_cons]
    simp only [PyData.eqvAll]
    rw [h x y, eqvAll_map f h xs ys]
    by_cases e1 : x = y
    · by_cases e2 : xs = ys
      · subst e1 e2
        simp
      · simp [e2]
    · simp [e1]
def tupS (ss : List Str) : PyData := .tuple (ss.map PyData.str)
theorem eqv_str (x y : Str) : PyData.eqv (.str x) (.str y) = decide (x = y) := by
  simp only [PyData.eqv]
  by_cases e : x = y
  · subst e; simp
  · simp [e]
theorem eqv_tupS (a b : List Str) : PyData.eqv (tupS a) (tupS b) = decide (a = b) := by
  rw [show PyData.eqv (tupS a) (tupS b) = PyData.eqvAll (a.map PyData.str) (b.map PyData.str) by simp [tupS, PyData.eqv]]
  exact eqvAll_map _ eqv_str a b
theorem eqv_call (a b : Str × Str) : PyData.eqv (callD a) (callD b) = decide (a = b) := by
  obtain ⟨a1, a2⟩ := a
  obtain ⟨b1, b2⟩ := b
  have e : PyData.eqv (callD (a1, a2)) (callD (b1, b2)) = (PyData.eqv (.str a1) (.str b1) && (PyData.eqv (.str a2) (.str b2) && true)) := by simp [callD, PyData.eqv, PyData.eqvAll]
  rw [e, eqv_str, eqv_str]
  by_cases e1 : a1 = b1
  · by_cases e2 : a2 = b2
    · simp [e1, e2]
    · simp [e1, e2]
  · simp [e1]
theorem eqv_link (a b : Str × Str × Nat × Nat) : PyData.eqv (linkD a) (linkD b) = decide (a = b) := by
  obtain ⟨a1, a2, a3, a4⟩ := a
  obtain ⟨b1, b2, b3, b4⟩ := b
  have e : PyData.eqv (linkD (a1, a2, a3, a4)) (linkD (b1, b2, b3, b4)) = (PyData.eqv (.str a1) (.str b1) && (PyData.eqv (.str a2) (.str b2) && (((a3 : Int) == (b3 : Int)) && (((a4 : Int) == (b4 : Int)) && true)))) := by simp [linkD, PyData.eqv, PyData.eqvAll]
  have ei : ∀ i j : Nat, ((i : Int) == (j : Int)) = decide (i = j) := fun i j => by
    by_cases e : i = j
    · subst e; simp
    · rw [decide_eq_false e]
      exact beq_false_of_ne fun q => e (Int.ofNat_inj.mp q)
  rw [e, eqv_str, eqv_str, ei, ei]
  by_cases e1 : a1 = b1
  · by_cases e2 : a2 = b2
    · by_cases e3 : a3 = b3
      · by_cases e4 : a4 = b4
        · simp [e1, e2, e3, e4]
        · simp [e1, e2, e3, e4]
      · simp [e1, e2, e3]
    · simp [e1, e2]
  · simp [e1]
def linksT (l : List (Str × Str × Nat × Nat)) : PyData := .tuple (l.map linkD)
def callsT (l : List (Str × Str)) : PyData := .tuple (l.map callD)
theorem eqv_links (a b : List (Str × Str × Nat × Nat)) : PyData.eqv (linksT a) (linksT b) = decide (a = b) := by
  rw [show PyData.eqv (linksT a) (linksT b) = PyData.eqvAll (a.map linkD) (b.map linkD) by simp [linksT, PyData.eqv]]
  exact eqvAll_map _ eqv_link a b
theorem eqv_calls (a b : List (Str × Str)) : PyData.eqv (callsT a) (callsT b) = decide (a = b) := by
  rw [show PyData.eqv (callsT a) (callsT b) = PyData.eqvAll (a.map callD) (b.map callD) by simp [callsT, PyData.eqv]]
  exact eqvAll_map _ eqv_call a b
/-- texts that can be compared -/
structure DMCan (m : DM) : Prop where
  inl : ∀ x ∈ m.inl, okS x = true
  out : ∀ x ∈ m.out, okS x = true
  sta : ∀ x ∈ m.sta, okS x = true
  links : ∀ l ∈ m.links, okS l.1 = true ∧ okS l.2.1 = true
  calls : ∀ c ∈ m.calls, okS c.1 = true ∧ okS c.2 = true
theorem okS_lay {x : Str} (h : okS x = true) : (PyData.str x).canLay0 = true := (Bool.and_eq_true_iff.mp h).1
theorem layAll_map {α : Type} (f : α → PyData) : ∀ xs : List α, (∀ x ∈ xs, (f x).canLay0 = true) → PyData.canLayAll0 (xs.map f) = true
  | [], _ => rfl
  | x :: xs, h => by
    show ((f x).canLay0 && PyData.canLayAll0 (xs.map f)) = true
    rw [h x (.head _), layAll_map f xs fun y hy => h y (.tail _ hy)]
    rfl
theorem depthAll_map {α : Type} (f : α → PyData) (n : Nat) : ∀ xs : List α, (∀ x ∈ xs, (f x).depth ≤ n) → PyData.depthAll (xs.map f) ≤ n
  | [], _ => by simp [PyData.depthAll]
  | x :: xs, h => by
    have h1 := h x (.head _)
    have h2 := depthAll_map f n xs fun y hy => h y (.tail _ hy)
    simp only [List.map_cons, PyData.depthAll]
    omega
theorem shaped_mk {d : PyData} (h : d.canLay0 = true) (g : d.depth ≤ 64) : SeqAt.shaped d = true := Bool.and_eq_true_iff.mpr ⟨h, decide_eq_true g⟩
theorem shaped_tupS {ss : List Str} (h : ∀ x ∈ ss, okS x = true) : SeqAt.shaped (tupS ss) = true := by
  refine shaped_mk (show PyData.canLayAll0 (ss.map PyData.str) = true from layAll_map _ ss fun x hx => okS_lay (h x hx)) ?_
  have := depthAll_map PyData.str 1 ss fun x _ => by simp [PyData.depth]
  simp only [tupS, PyData.depth]
  omega
theorem shaped_links {l : List (Str × Str × Nat × Nat)} (h : ∀ x ∈ l, okS x.1 = true ∧ okS x.2.1 = true) : SeqAt.shaped (linksT l) = true := by
  refine shaped_mk (show PyData.canLayAll0 (l.map linkD) = true from layAll_map _ l fun x hx => ?_) ?_
  · show ((PyData.str x.1).canLay0 && ((PyData.str x.2.1).canLay0 && _)) = true
    rw [okS_lay (h x hx).1, okS_lay (h x hx).2]
    rfl
  · have := depthAll_map linkD 5 l fun x _ => by simp [linkD, PyData.depth, PyData.depthAll]
    simp only [linksT, PyData.depth]
    omega
theorem shaped_calls {l : List (Str × Str)} (h : ∀ x ∈ l, okS x.1 = true ∧ okS x.2 = true) : SeqAt.shaped (callsT l) = true := by
  refine shaped_mk (show PyData.canLayAll0 (l.map callD) = true from layAll_map _ l fun x hx => ?_) ?_
  · show ((PyData.str x.1).canLay0 && ((PyData.str x.2).canLay0 && _)) = true
    rw [okS_lay (h x hx).1, okS_lay (h x hx).2]
    rfl
  · have := depthAll_map callD 5 l fun x _ => by simp [callD, PyData.depth, PyData.depthAll]
    simp only [callsT, PyData.depth]
    omega
/-- a module's fields -/
def modF (n : V) (t1 t2 t3 t4 t5 : Addr) : List (Str × V) := [("name", n), ("inlets", .ref t1), ("outlets", .ref t2), ("stations", .ref t3), ("links", .ref t4), ("calls", .ref t5)]
/-- the module m stands at p -/
def MoAt (K : PySem.W.Frag) (C : Addr) (H : Hp) (p : Addr) (m : DM) : Prop := ∃ (dx t1 t2 t3 t4 t5 : Addr), H p = some (.ins C dx (modF (.str m.name) t1 t2 t3 t4 t5)) ∧
  Dp K H (.ref t1) (tupS m.inl) ∧ Dp K H (.ref t2) (tupS m.out) ∧ Dp K H (.ref t3) (tupS m.sta) ∧ Dp K H (.ref t4) (linksT m.links) ∧ Dp K H (.ref t5) (callsT m.calls)
/-- what isinstance and == ask of the class of modules -/
structure ModEq (K : PySem.W.Frag) (mg : Str → Option Value) (C : Addr) : Prop where
  g : mg "Module" = some (.ref C)
  ins : ∀ (H : Hp) (a dx : Addr) (fs : List (Str × V)), H a = some (.ins C dx fs) → TyX K H (.ref a) (.ref C)
  self : PySem.W.kitOne K (.ref C) (.ref C) = some true
  str : PySem.W.kitOne K (.type "str") (.ref C) = some false
  int : PySem.W.kitOne K (.type "int") (.ref C) = some false
  nself : PySem.W.notFirst K C (.ref C) = true
  nstr : PySem.W.notFirst K C (.type "str") = true
  nint : PySem.W.notFirst K C (.type "int") = true
  ne : PySem.W.findIn K (.ref C) "__ne__" = some (some (.builtin "object.__ne__"))
  mro : PySem.W.mroIn K C (.type "object") = some true
theorem rd_neP {K : PySem.W.Frag} {H : Hp} {x y : V} {d e : PyData} {b : Bool} {Q : VK} (h : Dp K H x d) (g : Dp K H y e) (s1 : SeqAt.shaped d = true) (s2 : SeqAt.shaped e = true) (q : PyData.eqv d e = b) (k : Q (.bl (!b)) H) : rNeD K x y H Q := ⟨d, e, h, g, s1, s2, by rw [q]; exact k⟩
theorem rd_eqP {K : PySem.W.Frag} {H : Hp} {x y : V} {d e : PyData} {b : Bool} {Q : VK} (h : Dp K H x d) (g : Dp K H y e) (s1 : SeqAt.shaped d = true) (s2 : SeqAt.shaped e = true) (q : PyData.eqv d e = b) (k : Q (.bl b) H) : rEqD K x y H Q := ⟨d, e, h, g, s1, s2, by rw [q]; exact k⟩
def spEqM (K : PySem.W.Frag) (C : Addr) : Sp := fun vs H Q _ => ∃ (p : Addr) (m : DM) (y : V), vs = [.ref p, y] ∧ MoAt K C H p m ∧
  ((∃ t, TyX K H y t ∧ PySem.W.kitOne K t (.ref C) = some false ∧ Q (.bl false) H) ∨
   (∃ (q : Addr) (m2 : DM), y = .ref q ∧ MoAt K C H q m2 ∧ DMCan m ∧ DMCan m2 ∧ Q (.bl (decide (m = m2))) H))
section
variable {P : Program} {w : World} {K : PySem.W.Frag} {mg : Str → Option Value} {base : Heap} {C : Addr}
abbrev s_Module_eq : Stmt := inClass (topS 36) 2
theorem sc_Module_eq : FnScope ["self", "other"] ["self", "other"] (defScope s_Module_eq) := ⟨rfl, rfl, rfl, by decide +kernel, rfl, by decide +kernel, by decide +kernel⟩
theorem lk_mod (n : V) (t1 t2 t3 t4 t5 : Addr) : (modF n t1 t2 t3 t4 t5).lookup ("name" : Str) = some n ∧ (modF n t1 t2 t3 t4 t5).lookup ("inlets" : Str) = some (.ref t1) ∧ (modF n t1 t2 t3 t4 t5).lookup ("outlets" : Str) = some (.ref t2) ∧
    (modF n t1 t2 t3 t4 t5).lookup ("stations" : Str) = some (.ref t3) ∧ (modF n t1 t2 t3 t4 t5).lookup ("links" : Str) = some (.ref t4) ∧ (modF n t1 t2 t3 t4 t5).lookup ("calls" : Str) = some (.ref t5) := ⟨rfl, rfl, rfl, rfl, rfl, rfl⟩
set_option maxHeartbeats 8000000 in
theorem ok_eqM {f1 : Addr} {fd : FuncData} (F : Fun K "__eq__" "Module.__eq__" s_Module_eq f1 fd) (R : ModCls K C) (T : Txt mg) (Z : ModEq K mg C) : FnOk P w K mg base CX0 1 f1 fd ["self", "other"] (spEqM K C) := by
  refine F.ok sc_Module_eq (fun vs H Q E h => ?_) (fun cdv A outer s H vs Q E hr h => ?_)
  · obtain ⟨_, _, _, rfl, _⟩ := h
    rfl
  · obtain ⟨p, m, y, rfl, ⟨dx, t1, t2, t3, t4, t5, h0, h1, h2, h3, h4, h5⟩, k⟩ := h
    refine ⟨_, (pss_cons (ps_if (pt_not (pt_val (pe_callB call_isi (by rfl) T.isinstance (by decide +kernel) (pa_cons (pv 1) (pa_cons (pe_glob (v := .ref C) (by rfl) Z.g rfl) pa_nil)))))
    (pss_one (ps_ret pe_bl))
    pss_nil)
  (pss_cons (ps_if (PW.pt (pw_or (pt_cmpR op_ne (pe_fld (pv 0) rfl) (pe_fld (pv 1) rfl) (nomark _)) (pw_or (pt_cmpR (op_neD hr.units) (pe_fld (pv 0) rfl) (pe_fld (pv 1) rfl) (nomark _)) (pw_or1 (pt_cmpR (op_neD hr.units) (pe_fld (pv 0) rfl) (pe_fld (pv 1) rfl) (nomark _))))))
    (pss_one (ps_ret pe_bl))
    pss_nil)
  (pss_one (ps_ret (pe_and (pe_cmpR (op_eqD hr.units) (pe_fld (pv 0) rfl) (pe_fld (pv 1) rfl) (nomark _)) (pe_and (pe_cmpR (op_eqD hr.units) (pe_fld (pv 0) rfl) (pe_fld (pv 1) rfl) (nomark _)) (pe_one (pe_cmpR (op_eqD hr.units) (pe_fld (pv 0) rfl) (pe_fld (pv 1) rfl) (nomark _))))))))), ?_⟩
    refine ⟨_, rfl, ?_⟩
    rcases k with ⟨t, ty, kt, k⟩ | ⟨q, m2, rfl, ⟨dx2, u1, u2, u3, u4, u5, g0, g1, g2, g3, g4, g5⟩, c1, c2, k⟩
    · refine ⟨_, _, _, _, false, rfl, .own _, ty, kt, _, rfl, ?_⟩
      refine iteT ?_
      exact k
    · refine ⟨_, _, _, _, true, rfl, .own _, Z.ins _ _ _ _ g0, Z.self, _, rfl, ?_⟩
      refine iteF ?_
      have em : (m = m2) ↔ (m.name = m2.name ∧ m.inl = m2.inl ∧ m.out = m2.out ∧ m.sta = m2.sta ∧ m.links = m2.links ∧ m.calls = m2.calls) := by
        constructor
        · rintro rfl
          exact ⟨rfl, rfl, rfl, rfl, rfl, rfl⟩
        · rintro ⟨e1, e2, e3, e4, e5, e6⟩
          obtain ⟨_, _, _, _, _, _⟩ := m
          obtain ⟨_, _, _, _, _, _⟩ := m2
          dsimp only at e1 e2 e3 e4 e5 e6
          subst e1 e2 e3 e4 e5 e6
          rfl
      obtain ⟨l0, l1, l2, l3, l4, l5⟩ := lk_mod (.str m.name) t1 t2 t3 t4 t5
      obtain ⟨r0, r1, r2, r3, r4, r5⟩ := lk_mod (.str m2.name) u1 u2 u3 u4 u5
      have no : ¬ m = m2 → Q (.bl false) H := fun z => by
        rw [decide_eq_false z] at k
        exact k
      refine ⟨_, rfl, p, C, dx, _, _, rfl, h0, R.cl, R.n0, l0, _, rfl, q, C, dx2, _, _, rfl, g0, R.cl, R.n0, r0, rfl, _, rfl, ?_⟩
      rw [decS]
      by_cases e1 : m.name = m2.name
      · rw [decide_eq_true e1]
        refine iteF ?_
        refine ⟨_, rfl, p, C, dx, _, _, rfl, h0, R.cl, R.n1, l1, _, rfl, q, C, dx2, _, _, rfl, g0, R.cl, R.n1, r1, rd_neP h1 g1 (shaped_tupS c1.inl) (shaped_tupS c2.inl) (eqv_tupS _ _) ⟨_, rfl, ?_⟩⟩
        by_cases e2 : m.inl = m2.inl
        · rw [decide_eq_true e2]
          refine iteF ?_
          refine ⟨_, rfl, p, C, dx, _, _, rfl, h0, R.cl, R.n2, l2, _, rfl, q, C, dx2, _, _, rfl, g0, R.cl, R.n2, r2, rd_neP h2 g2 (shaped_tupS c1.out) (shaped_tupS c2.out) (eqv_tupS _ _) ⟨_, rfl, ?_⟩⟩
          by_cases e3 : m.out = m2.out
          · rw [decide_eq_true e3]
            refine iteF ?_
            refine ⟨_, rfl, p, C, dx, _, _, rfl, h0, R.cl, R.n3, l3, _, rfl, q, C, dx2, _, _, rfl, g0, R.cl, R.n3, r3, rd_eqP h3 g3 (shaped_tupS c1.sta) (shaped_tupS c2.sta) (eqv_tupS _ _) ⟨_, rfl, ?_⟩⟩
            by_cases e4 : m.sta = m2.sta
            · rw [decide_eq_true e4]
              refine iteT ?_
              refine ⟨_, rfl, p, C, dx, _, _, rfl, h0, R.cl, R.n4, l4, _, rfl, q, C, dx2, _, _, rfl, g0, R.cl, R.n4, r4, rd_eqP h4 g4 (shaped_links c1.links) (shaped_links c2.links) (eqv_links _ _) ⟨_, rfl, ?_⟩⟩
              by_cases e5 : m.links = m2.links
              · rw [decide_eq_true e5]
                refine iteT ?_
                refine ⟨_, rfl, p, C, dx, _, _, rfl, h0, R.cl, R.n5, l5, _, rfl, q, C, dx2, _, _, rfl, g0, R.cl, R.n5, r5, rd_eqP h5 g5 (shaped_calls c1.calls) (shaped_calls c2.calls) (eqv_calls _ _) ?_⟩
                rw [show decide (m.calls = m2.calls) = decide (m = m2) from decide_eq_decide.mpr ⟨fun z => em.mpr ⟨e1, e2, e3, e4, e5, z⟩, fun z => (em.mp z).2.2.2.2.2⟩]
                exact k
              · rw [decide_eq_false e5]
                refine iteF ?_
                exact no fun z => e5 (em.mp z).2.2.2.2.1
            · rw [decide_eq_false e4]
              refine iteF ?_
              exact no fun z => e4 (em.mp z).2.2.2.1
          · rw [decide_eq_false e3]
            refine iteT ?_
            exact no fun z => e3 (em.mp z).2.2.1
        · rw [decide_eq_false e2]
          refine iteT ?_
          refine iteT ?_
          exact no fun z => e2 (em.mp z).2.1
      · rw [decide_eq_false e1]
        refine iteT ?_
        refine iteT ?_
        exact no fun z => e1 (em.mp z).1
end
end My

namespace My
open PySem PySem.Spec PyProof.Rows L2
local macro_rules | `(tactic| walk_at "side") => `(tactic| first | (dsimp only; omega) | exact ⟨by omega, by omega⟩ | exact Or.inl ⟨by omega, by omega⟩ | exact Or.inr ⟨by omega, by omega⟩ | decide)
local macro_rules | `(tactic| walk_at "sq") => `(tactic| first | assumption | exact SqL.of (by assumption) | exact SqT.of (by assumption) | (refine L2.Same.seq (by assumption) ?_; walk_at "sq") | (refine L2.Same.seqT (by assumption) ?_; walk_at "sq") | exact Or.inl (by walk_at "sq") | exact Or.inr (by walk_at "sq"))
local macro_rules | `(tactic| walk_at "1") => `(tactic| first
  | refine ⟨_, rfl, iteT ?_⟩
  | refine ⟨_, rfl, iteF ?_⟩
  | refine ⟨_, rfl, ?_⟩
  | refine ⟨_, _, rfl, rfl, (by walk_at "side"), ?_⟩
  | refine ⟨_, _, rfl, rfl, ?_⟩
  | refine ⟨_, _, _, _, true, rfl, .ty _, .base (.int _), kit_ty (a := "int") (by decide +kernel), ?_⟩
  | refine ⟨_, _, _, _, false, rfl, .ty _, .base (.int _), kit_ty (a := "int") (by decide +kernel), ?_⟩
  | refine ⟨_, _, rfl, (by walk_at "sq"), ?_⟩
  | refine ⟨_, _, _, _, rfl, rfl, (by walk_at "sq"), (by first | rfl | assumption), ?_⟩
  | refine Or.inl ⟨_, _, _, _, rfl, rfl, (by walk_at "sq"), (by first | rfl | assumption), ?_⟩
  | refine Or.inr (Or.inl ⟨_, _, _, _, rfl, rfl, (by walk_at "sq"), (by first | rfl | assumption), ?_⟩)
  | refine ⟨_, _, rfl, Or.inl ⟨(by walk_at "sq"), ?_⟩⟩
  | refine ⟨rfl, ?_⟩
  | refine iteT ?_
  | refine iteF ?_
  | refine ⟨_, _, _, _, _, rfl, (by assumption), (by assumption), (by assumption), (by assumption), ?_⟩
  | refine Or.inl ⟨_, rfl, ?_⟩
  | refine Or.inr ⟨_, rfl, ?_⟩
  | refine ⟨_, _, rfl, (by walk_at "side"), ?_⟩
  | refine ⟨_, _, rfl, ?_⟩)
local macro_rules | `(tactic| walk_at "fld") => `(tactic| skip)
local macro_rules | `(tactic| walk_at "s") => `(tactic| repeat walk_at "1")
local macro_rules | `(tactic| walk_at "size") => `(tactic| first | exact Nat.le_of_ble_eq_true rfl | (simp only [List.length_map, List.length_append, List.length_cons, List.length_nil]; omega))
local macro_rules | `(tactic| walk_at "new") => `(tactic| (first | refine ⟨(by walk_at "size"), fun p hp => ?_⟩ | refine fun p hp => ?_); (generalize hq : upd _ p _ = H1); (obtain ⟨s, e⟩ := new_facts hp hq); clear hq)
/-! ## what is wrong of a drawn module -/
def words : List Str := ["name", "inlets", "outlets", "stations", "links", "calls"]
def args (m : DM) : List PyData := [.str m.name, strL m.inl, strL m.out, strL m.sta, .list (m.links.map linkD), .list (m.calls.map callD)]
def wordL : List PyData → Option Str
  | [a, b, c, d, e, f] => wordM a b c d e f
  | _ => none
/-- d in the place k of a module's arguments is the first that is wrong -/
def BadAt (m : DM) (k : Nat) (d : PyData) : Prop := (∃ w, words[k]? = some w ∧ wordL ((args m).set k d) = some w) ∧ (k = 5 → (itemsD d).all labOk = true)
theorem strsD_strs : ∀ ss : List Str, strsD (ss.map PyData.str) = ss
  | [] => rfl
  | x :: ss => by
    show x :: strsD (ss.map PyData.str) = x :: ss
    rw [strsD_strs ss]
theorem strsI_strL (ss : List Str) : strsI (strL ss) = ss := strsD_strs ss
theorem all_names {ss : List Str} (h : ∀ x ∈ ss, nameS x = true) : (ss.map PyData.str).all isNameD = true := by
  rw [List.all_map]
  exact List.all_eq_true.mpr h
/-- names that are free -/
theorem free_yes {ss ts : List Str} (h : ∀ x ∈ ss, nameS x = true) (n : ss.Nodup) (f : ∀ x ∈ ss, x ∉ ts) : areFree (ss.map PyData.str) ts = true := by
  unfold areFree
  rw [all_names h, strsD_strs, decide_eq_true n, Bool.true_and, Bool.true_and, Bool.not_eq_true', Bool.eq_false_iff]
  intro q
  obtain ⟨x, hx, hq⟩ := List.any_eq_true.mp q
  exact f x hx (of_decide_eq_true hq)
theorem free_no_name {ds : List PyData} {ts : List Str} {d : PyData} (h : d ∈ ds) (n : isNameD d = false) : areFree ds ts = false := by
  unfold areFree
  rw [show ds.all isNameD = false from Bool.eq_false_iff.mpr fun q => by
    have := List.all_eq_true.mp q d h
    rw [n] at this
    cases this]
  rfl
theorem free_no_dup {ss ts : List Str} (n : ¬ ss.Nodup) : areFree (ss.map PyData.str) ts = false := by
  unfold areFree
  rw [strsD_strs, decide_eq_false n, Bool.false_and, Bool.and_false]
theorem free_no_taken {ss ts : List Str} {x : Str} (h : x ∈ ss) (t : x ∈ ts) : areFree (ss.map PyData.str) ts = false := by
  unfold areFree
  rw [strsD_strs, show (ss.any fun x => decide (x ∈ ts)) = true from List.any_eq_true.mpr ⟨x, h, decide_eq_true t⟩, Bool.not_true, Bool.and_false, Bool.and_false]
section
variable {ms : List DM} {m : DM}
/-- what a drawn module's names are -/
structure NameFacts (m : DM) : Prop where
  name : nameS m.name = true
  i1 : areFree (m.inl.map PyData.str) [] = true
  o1 : areFree (m.out.map PyData.str) m.inl = true
  s1 : areFree (m.sta.map PyData.str) (m.inl ++ m.out) = true
theorem modNames_name : ∀ x ∈ modNames, nameS x = true := by decide +kernel
theorem nd_parts (B : DMBase m) : m.inl.Nodup ∧ m.out.Nodup ∧ m.sta.Nodup ∧ (m.calls.map (·.1)).Nodup ∧ (∀ x ∈ m.out, x ∉ m.inl) ∧ (∀ x ∈ m.sta, x ∉ m.inl ∧ x ∉ m.out) ∧ (∀ x ∈ m.calls.map (·.1), x ∉ m.inl ∧ x ∉ m.out ∧ x ∉ m.sta) := by
  have h := B.nd
  unfold namesOf at h
  obtain ⟨h1, h2, h3⟩ := List.nodup_append.mp h
  obtain ⟨h4, h5, h6⟩ := List.nodup_append.mp h2
  obtain ⟨h7, h8, h9⟩ := List.nodup_append.mp h5
  refine ⟨h1, h4, h7, h8, fun x hx q => h3 x q x (List.mem_append_left _ hx) rfl, fun x hx => ⟨fun q => h3 x q x (List.mem_append_right _ (List.mem_append_left _ hx)) rfl, fun q => h6 x q x (List.mem_append_left _ hx) rfl⟩,
    fun x hx => ⟨fun q => h3 x q x (List.mem_append_right _ (List.mem_append_right _ hx)) rfl, fun q => h6 x q x (List.mem_append_right _ hx) rfl, fun q => h9 x q x hx rfl⟩⟩
theorem name_facts (B : DMBase m) : NameFacts m := by
  obtain ⟨n1, n2, n3, _, d1, d2, _⟩ := nd_parts B
  exact ⟨modNames_name _ B.name, free_yes (fun x hx => B.nameS (in_inl hx)) n1 (fun x _ q => nomatch q), free_yes (fun x hx => B.nameS (in_out hx)) n2 d1,
    free_yes (fun x hx => B.nameS (in_sta hx)) n3 fun x hx q => by
      rcases List.mem_append.mp q with q | q
      · exact (d2 x hx).1 q
      · exact (d2 x hx).2 q⟩
/-- the word of names that are right, and links and calls -/
theorem word_names (F : NameFacts m) (l c : PyData) : wordM (.str m.name) (strL m.inl) (strL m.out) (strL m.sta) l c =
    if (isSeqD l && (itemsD l).all (isRightD (m.inl ++ m.sta) (m.sta ++ m.out) (lblS c))) = true then
      if (isSeqD c && ((itemsD c).all isCallD && areFree ((lblS c).map PyData.str) (m.inl ++ (m.out ++ m.sta)))) = true then none else some ("calls" : Str)
    else some ("links" : Str) := by
  unfold wordM
  rw [if_pos (show isNameD (.str m.name) = true from F.name)]
  have e : wordN [(("inlets" : Str), strL m.inl), (("outlets" : Str), strL m.out), (("stations" : Str), strL m.sta)] [] = none := by
    unfold wordN
    rw [if_pos (show (isSeqD (strL m.inl) && areFree (itemsD (strL m.inl)) []) = true from F.i1)]
    unfold wordN
    rw [List.nil_append, show strsD (itemsD (strL m.inl)) = m.inl from strsD_strs _, if_pos (show (isSeqD (strL m.out) && areFree (itemsD (strL m.out)) m.inl) = true from F.o1)]
    unfold wordN
    rw [show strsD (itemsD (strL m.out)) = m.out from strsD_strs _, if_pos (show (isSeqD (strL m.sta) && areFree (itemsD (strL m.sta)) (m.inl ++ m.out)) = true from F.s1)]
    rfl
  rw [e, strsI_strL, strsI_strL, strsI_strL]
theorem word_0 {n i o s l c : PyData} (h : isNameD n = false) : wordM n i o s l c = some ("name" : Str) := by
  unfold wordM
  rw [if_neg (by rw [h]; exact Bool.false_ne_true)]
theorem word_1 {n i o s l c : PyData} (hn : isNameD n = true) (h : (isSeqD i && areFree (itemsD i) []) = false) : wordM n i o s l c = some ("inlets" : Str) := by
  unfold wordM
  rw [if_pos hn]
  have e : wordN [(("inlets" : Str), i), (("outlets" : Str), o), (("stations" : Str), s)] [] = some ("inlets" : Str) := by
    unfold wordN
    rw [if_neg (by rw [h]; exact Bool.false_ne_true)]
  rw [e]
theorem word_2 {n i o s l c : PyData} (hn : isNameD n = true) (hi : (isSeqD i && areFree (itemsD i) []) = true) (h : (isSeqD o && areFree (itemsD o) (strsI i)) = false) : wordM n i o s l c = some ("outlets" : Str) := by
  unfold wordM
  rw [if_pos hn]
  have e : wordN [(("inlets" : Str), i), (("outlets" : Str), o), (("stations" : Str), s)] [] = some ("outlets" : Str) := by
    unfold wordN
    rw [if_pos hi, List.nil_append]
    unfold wordN
    rw [if_neg (by rw [h]; exact Bool.false_ne_true)]
  rw [e]
theorem word_3 {n i o s l c : PyData} (hn : isNameD n = true) (hi : (isSeqD i && areFree (itemsD i) []) = true) (ho : (isSeqD o && areFree (itemsD o) (strsI i)) = true) (h : (isSeqD s && areFree (itemsD s) (strsI i ++ strsI o)) = false) : wordM n i o s l c = some ("stations" : Str) := by
  unfold wordM
  rw [if_pos hn]
  have e : wordN [(("inlets" : Str), i), (("outlets" : Str), o), (("stations" : Str), s)] [] = some ("stations" : Str) := by
    unfold wordN
    rw [if_pos hi, List.nil_append]
    unfold wordN
    rw [if_pos ho]
    unfold wordN
    rw [if_neg (by rw [h]; exact Bool.false_ne_true)]
  rw [e]
/-! ### ends -/
theorem end_plain {x : Str} {ns ls : List Str} (h : x ∈ ns) : isEndS x ns ls = true := by
  unfold isEndS
  rw [decide_eq_true h, Bool.true_or]
theorem lab_point (l o : Str) : 46 ∈ TL.tl (lab l o) := by
  unfold lab
  rw [TL.tl_append, TL.tl_append]
  exact List.mem_append_left _ (List.mem_append_right _ (by decide))
theorem point_no {x : Str} {ns : List Str} (h : 46 ∈ TL.tl x) (n : ∀ y ∈ ns, nameS y = true) : x ∉ ns := fun q => name_point (n x q) h
theorem end_lab {l o : Str} {ns ls : List Str} (nl : 46 ∉ TL.tl l) (n : ∀ y ∈ ns, nameS y = true) : isEndS (lab l o) ns ls = (decide (l ∈ ls) && nameS o) := by
  unfold isEndS
  rw [decide_eq_false (point_no (lab_point l o) n), Bool.false_or, part_lab nl]
  show (decide ((("." : Str)) = ".") && _) = _
  rw [decide_eq_true rfl, Bool.true_and]
theorem end_no {x : Str} {ns ls : List Str} (h : 46 ∉ TL.tl x) (n : x ∉ ns) : isEndS x ns ls = false := by
  unfold isEndS
  rw [decide_eq_false n, Bool.false_or, part_plain h]
  show (decide (Str.empty = ".") && _) = false
  rw [decide_eq_false (by decide), Bool.false_and]
/-- an end of a drawn link is right where the labels are known -/
theorem EndIs.right {ns ls : List Str} {x : Str} (h : EndIs m ns x) (n : ∀ y ∈ ns, nameS y = true) (hl : ∀ c ∈ m.calls, c.1 ∈ ls) : isEndS x ns ls = true := by
  cases h with
  | plain h _ => exact end_plain h
  | call c o hc nl no e =>
    subst e
    rw [end_lab (name_point nl) n, decide_eq_true (hl c hc), no]
    rfl
/-- without labels it is right just where it has no point -/
theorem EndIs.bare {ns : List Str} {x : Str} (h : EndIs m ns x) (n : ∀ y ∈ ns, nameS y = true) : isEndS x ns [] = !decide (46 ∈ TL.tl x) := by
  cases h with
  | plain h nm => rw [end_plain h, decide_eq_false (name_point nm)]; rfl
  | call c o hc nl no e =>
    subst e
    rw [end_lab (name_point nl) n, decide_eq_true (lab_point _ _)]
    rfl
theorem beg_names (B : DMBase m) : ∀ y ∈ m.inl ++ m.sta, nameS y = true := fun y hy => by
  rcases List.mem_append.mp hy with h | h
  · exact B.nameS (in_inl h)
  · exact B.nameS (in_sta h)
theorem goe_names (B : DMBase m) : ∀ y ∈ m.sta ++ m.out, nameS y = true := fun y hy => by
  rcases List.mem_append.mp hy with h | h
  · exact B.nameS (in_sta h)
  · exact B.nameS (in_out h)
theorem right_link {bs es ls : List Str} (l : Str × Str × Nat × Nat) : isRightD bs es ls (linkD l) = (isEndS l.1 bs ls && isEndS l.2.1 es ls) := by
  show ((decide ((0 : Int) ≤ (l.2.2.1 : Nat)) && decide ((0 : Int) ≤ (l.2.2.2 : Nat))) && (isEndS l.1 bs ls && isEndS l.2.1 es ls)) = _
  rw [decide_eq_true (by omega), decide_eq_true (by omega), Bool.true_and, Bool.true_and]
theorem links_right (M : ∀ m' ∈ ms, DMBase m') (O : DMOk ms m) {ls : List Str} (hl : ∀ c ∈ m.calls, c.1 ∈ ls) : (m.links.map linkD).all (isRightD (m.inl ++ m.sta) (m.sta ++ m.out) ls) = true := by
  rw [List.all_map]
  refine List.all_eq_true.mpr fun l h => ?_
  obtain ⟨h1, h2, _⟩ := O.links l h
  show isRightD _ _ _ (linkD l) = true
  rw [right_link, (beg_is O.base M h1).right (beg_names O.base) hl, (goe_is O.base M h2).right (goe_names O.base) hl]
  rfl
/-- a link leads to or from a call -/
def callsL (m : DM) : Bool := m.links.any fun l => decide (46 ∈ TL.tl (l.1 ++ l.2.1))
theorem links_bare (M : ∀ m' ∈ ms, DMBase m') (O : DMOk ms m) : (m.links.map linkD).all (isRightD (m.inl ++ m.sta) (m.sta ++ m.out) []) = !callsL m := by
  unfold callsL
  rw [List.all_map]
  have go : ∀ ls : List (Str × Str × Nat × Nat), (∀ l ∈ ls, linkOk ms m l) → ls.all (isRightD (m.inl ++ m.sta) (m.sta ++ m.out) [] ∘ linkD) = !ls.any fun l => decide (46 ∈ TL.tl (l.1 ++ l.2.1)) := by
    intro ls
    induction ls with
    | nil => exact fun _ => rfl
    | cons l ls ih =>
      intro h
      obtain ⟨h1, h2, _⟩ := h l (List.mem_cons_self ..)
      rw [List.any_cons, List.all_cons, ih fun x hx => h x (List.mem_cons_of_mem _ hx), Bool.not_or]
      congr 1
      show isRightD _ _ _ (linkD l) = _
      rw [right_link, (beg_is O.base M h1).bare (beg_names O.base), (goe_is O.base M h2).bare (goe_names O.base), TL.tl_append]
      by_cases a : 46 ∈ TL.tl l.1
      · rw [decide_eq_true a, decide_eq_true (List.mem_append_left _ a)]
        rfl
      · by_cases b : 46 ∈ TL.tl l.2.1
        · rw [decide_eq_false a, decide_eq_true b, decide_eq_true (List.mem_append_right _ b)]
          rfl
        · rw [decide_eq_false a, decide_eq_false b, decide_eq_false (fun q => by rcases List.mem_append.mp q with q | q; exact a q; exact b q)]
          rfl
  exact go m.links O.links
theorem lbl_calls (cs : List (Str × Str)) : lblS (.list (cs.map callD)) = cs.map (·.1) := by
  show (cs.map callD).filterMap labS = _
  induction cs with
  | nil => rfl
  | cons c cs ih =>
    rw [List.map_cons, List.filterMap_cons]
    show c.1 :: (cs.map callD).filterMap labS = _
    rw [ih]
    rfl
theorem name_of_mem (M : ∀ m' ∈ ms, DMBase m') (O : DMOk ms m) : ∀ c ∈ m.calls, nameS c.2 = true := fun c hc => by
  obtain ⟨m', h⟩ := O.calls c hc
  obtain ⟨h1, h2⟩ := findM_mem h
  rw [← h2]
  exact modNames_name _ (M m' h1).name
theorem calls_right (M : ∀ m' ∈ ms, DMBase m') (O : DMOk ms m) : (m.calls.map callD).all isCallD = true := by
  rw [List.all_map]
  refine List.all_eq_true.mpr fun c hc => ?_
  show (nameS c.1 && nameS c.2) = true
  rw [O.base.nameS (in_lab hc), name_of_mem M O c hc]
  rfl
theorem labels_free (B : DMBase m) : areFree ((m.calls.map (·.1)).map PyData.str) (m.inl ++ (m.out ++ m.sta)) = true := by
  obtain ⟨_, _, _, n, _, _, d⟩ := nd_parts B
  refine free_yes (fun x hx => ?_) n fun x hx q => ?_
  · obtain ⟨c, hc, rfl⟩ := List.mem_map.mp hx
    exact B.nameS (in_lab hc)
  · obtain ⟨d1, d2, d3⟩ := d x hx
    rcases List.mem_append.mp q with q | q
    · exact d1 q
    · rcases List.mem_append.mp q with q | q
      · exact d2 q
      · exact d3 q
/-- a drawn module is right -/
theorem word_good (M : ∀ m' ∈ ms, DMBase m') (O : DMOk ms m) : wordL (args m) = none := by
  show wordM _ _ _ _ _ _ = none
  have h1 : (isSeqD (.list (m.links.map linkD)) && (itemsD (.list (m.links.map linkD))).all (isRightD (m.inl ++ m.sta) (m.sta ++ m.out) (m.calls.map (·.1)))) = true := links_right M O fun c hc => List.mem_map_of_mem hc
  have h2 : (isSeqD (.list (m.calls.map callD)) && ((itemsD (.list (m.calls.map callD))).all isCallD && areFree ((m.calls.map (·.1)).map PyData.str) (m.inl ++ (m.out ++ m.sta)))) = true := by
    rw [labels_free O.base, show (itemsD (.list (m.calls.map callD))).all isCallD = true from calls_right M O]
    rfl
  rw [word_names (name_facts O.base), lbl_calls, if_pos h1, if_pos h2]
theorem word_tuples (M : ∀ m' ∈ ms, DMBase m') (O : DMOk ms m) : wordM (.str m.name) (.tuple (m.inl.map .str)) (.tuple (m.out.map .str)) (.tuple (m.sta.map .str)) (.tuple (m.links.map linkD)) (.tuple (m.calls.map callD)) = none := word_good M O
/-- without calls -/
theorem word_bare (M : ∀ m' ∈ ms, DMBase m') (O : DMOk ms m) : wordM (.str m.name) (strL m.inl) (strL m.out) (strL m.sta) (.list (m.links.map linkD)) .none = some (if callsL m = true then ("links" : Str) else ("calls" : Str)) := by
  rw [word_names (name_facts O.base)]
  rw [show (isSeqD (.list (m.links.map linkD)) && (itemsD (.list (m.links.map linkD))).all (isRightD (m.inl ++ m.sta) (m.sta ++ m.out) (lblS .none))) = !callsL m from links_bare M O]
  cases callsL m with
  | true => rfl
  | false => rfl
end
end My

namespace My
open PySem PySem.Spec PyProof.Rows L2
local macro_rules | `(tactic| walk_at "side") => `(tactic| first | (dsimp only; omega) | exact ⟨by omega, by omega⟩ | exact Or.inl ⟨by omega, by omega⟩ | exact Or.inr ⟨by omega, by omega⟩ | decide)
local macro_rules | `(tactic| walk_at "sq") => `(tactic| first | assumption | exact SqL.of (by assumption) | exact SqT.of (by assumption) | (refine L2.Same.seq (by assumption) ?_; walk_at "sq") | (refine L2.Same.seqT (by assumption) ?_; walk_at "sq") | exact Or.inl (by walk_at "sq") | exact Or.inr (by walk_at "sq"))
local macro_rules | `(tactic| walk_at "1") => `(tactic| first
  | refine ⟨_, rfl, iteT ?_⟩
  | refine ⟨_, rfl, iteF ?_⟩
  | refine ⟨_, rfl, ?_⟩
  | refine ⟨_, _, rfl, rfl, (by walk_at "side"), ?_⟩
  | refine ⟨_, _, rfl, rfl, ?_⟩
  | refine ⟨_, _, _, _, true, rfl, .ty _, .base (.int _), kit_ty (a := "int") (by decide +kernel), ?_⟩
  | refine ⟨_, _, _, _, false, rfl, .ty _, .base (.int _), kit_ty (a := "int") (by decide +kernel), ?_⟩
  | refine ⟨_, _, rfl, (by walk_at "sq"), ?_⟩
  | refine ⟨_, _, _, _, rfl, rfl, (by walk_at "sq"), (by first | rfl | assumption), ?_⟩
  | refine Or.inl ⟨_, _, _, _, rfl, rfl, (by walk_at "sq"), (by first | rfl | assumption), ?_⟩
  | refine Or.inr (Or.inl ⟨_, _, _, _, rfl, rfl, (by walk_at "sq"), (by first | rfl | assumption), ?_⟩)
  | refine ⟨_, _, rfl, Or.inl ⟨(by walk_at "sq"), ?_⟩⟩
  | refine ⟨rfl, ?_⟩
  | refine iteT ?_
  | refine iteF ?_
  | refine ⟨_, _, _, _, _, rfl, (by assumption), (by assumption), (by assumption), (by assumption), ?_⟩
  | refine Or.inl ⟨_, rfl, ?_⟩
  | refine Or.inr ⟨_, rfl, ?_⟩
  | refine ⟨_, _, rfl, (by walk_at "side"), ?_⟩
  | refine ⟨_, _, rfl, ?_⟩)
local macro_rules | `(tactic| walk_at "fld") => `(tactic| skip)
local macro_rules | `(tactic| walk_at "s") => `(tactic| repeat walk_at "1")
local macro_rules | `(tactic| walk_at "size") => `(tactic| first | exact Nat.le_of_ble_eq_true rfl | (simp only [List.length_map, List.length_append, List.length_cons, List.length_nil]; omega))
local macro_rules | `(tactic| walk_at "new") => `(tactic| (first | refine ⟨(by walk_at "size"), fun p hp => ?_⟩ | refine fun p hp => ?_); (generalize hq : upd _ p _ = H1); (obtain ⟨s, e⟩ := new_facts hp hq); clear hq)
/-- a list or a tuple of these things -/
def SeqD (d : PyData) (ds : List PyData) : Prop := d = .list ds ∨ d = .tuple ds
/-- a module's right arguments -/
structure GoodDM (m : DM) : Prop where
  word : wordL (args m) = none
  can : DMCan m
theorem labs_ok (cs : List (Str × Str)) : (cs.map callD).all labOk = true := List.all_eq_true.mpr fun d hd => by
  obtain ⟨c, _, rfl⟩ := List.mem_map.mp hd
  rfl
/-- arguments as lists or tuples -/
structure ArgsAt (H : Hp) (m : DM) (vs : List V) : Prop where
  ex : ∃ (v1 v2 v3 v4 v5 : V) (d1 d2 d3 d4 d5 : PyData), vs = [.str m.name, v1, v2, v3, v4, v5] ∧ okS m.name = true ∧ Dv H v1 d1 ∧ Dv H v2 d2 ∧ Dv H v3 d3 ∧ Dv H v4 d4 ∧ Dv H v5 d5 ∧
    SeqD d1 (m.inl.map .str) ∧ SeqD d2 (m.out.map .str) ∧ SeqD d3 (m.sta.map .str) ∧ SeqD d4 (m.links.map linkD) ∧ SeqD d5 (m.calls.map callD)
theorem SeqD.items {d : PyData} {ds : List PyData} (h : SeqD d ds) : itemsD d = ds := by
  rcases h with rfl | rfl <;> rfl
theorem word_seq {m : DM} {d1 d2 d3 d4 d5 : PyData} (h1 : SeqD d1 (m.inl.map .str)) (h2 : SeqD d2 (m.out.map .str)) (h3 : SeqD d3 (m.sta.map .str)) (h4 : SeqD d4 (m.links.map linkD)) (h5 : SeqD d5 (m.calls.map callD)) (w : wordL (args m) = none) : wordM (.str m.name) d1 d2 d3 d4 d5 = none := by
  rcases h1 with rfl | rfl <;> rcases h2 with rfl | rfl <;> rcases h3 with rfl | rfl <;> rcases h4 with rfl | rfl <;> rcases h5 with rfl | rfl <;> exact w
theorem moAt {K : PySem.W.Frag} {C p : Addr} {H : Hp} {m : DM} {d1 d2 d3 d4 d5 : PyData} (h1 : SeqD d1 (m.inl.map .str)) (h2 : SeqD d2 (m.out.map .str)) (h3 : SeqD d3 (m.sta.map .str)) (h4 : SeqD d4 (m.links.map linkD)) (h5 : SeqD d5 (m.calls.map callD))
    (h : ModAt C H p (.str m.name) d1 d2 d3 d4 d5) : MoAt K C H p m := by
  obtain ⟨dx, t1, t2, t3, t4, t5, e, g1, g2, g3, g4, g5⟩ := h
  rw [h1.items] at g1
  rw [h2.items] at g2
  rw [h3.items] at g3
  rw [h4.items] at g4
  rw [h5.items] at g5
  exact ⟨dx, t1, t2, t3, t4, t5, e, g1.dp, g2.dp, g3.dp, g4.dp, g5.dp⟩
/-- as MoAt, with data that stand in the heap -/
def MoDv (C : Addr) (H : Hp) (p : Addr) (m : DM) : Prop := ∃ (dx t1 t2 t3 t4 t5 : Addr), H p = some (.ins C dx (modF (.str m.name) t1 t2 t3 t4 t5)) ∧
  Dv H (.ref t1) (tupS m.inl) ∧ Dv H (.ref t2) (tupS m.out) ∧ Dv H (.ref t3) (tupS m.sta) ∧ Dv H (.ref t4) (linksT m.links) ∧ Dv H (.ref t5) (callsT m.calls)
theorem MoDv.mo {K : PySem.W.Frag} {C p : Addr} {H : Hp} {m : DM} (h : MoDv C H p m) : MoAt K C H p m := by
  obtain ⟨dx, t1, t2, t3, t4, t5, e, g1, g2, g3, g4, g5⟩ := h
  exact ⟨dx, t1, t2, t3, t4, t5, e, g1.dp, g2.dp, g3.dp, g4.dp, g5.dp⟩
theorem MoDv.same {C p : Addr} {H H' : Hp} {m : DM} (s : Same H H') (h : MoDv C H p m) : MoDv C H' p m := by
  obtain ⟨dx, t1, t2, t3, t4, t5, e, g1, g2, g3, g4, g5⟩ := h
  exact ⟨dx, t1, t2, t3, t4, t5, s _ _ e, g1.same s, g2.same s, g3.same s, g4.same s, g5.same s⟩
theorem moDv {C p : Addr} {H : Hp} {m : DM} {d1 d2 d3 d4 d5 : PyData} (h1 : SeqD d1 (m.inl.map .str)) (h2 : SeqD d2 (m.out.map .str)) (h3 : SeqD d3 (m.sta.map .str)) (h4 : SeqD d4 (m.links.map linkD)) (h5 : SeqD d5 (m.calls.map callD))
    (h : ModAt C H p (.str m.name) d1 d2 d3 d4 d5) : MoDv C H p m := by
  obtain ⟨dx, t1, t2, t3, t4, t5, e, g1, g2, g3, g4, g5⟩ := h
  rw [h1.items] at g1
  rw [h2.items] at g2
  rw [h3.items] at g3
  rw [h4.items] at g4
  rw [h5.items] at g5
  exact ⟨dx, t1, t2, t3, t4, t5, e, g1, g2, g3, g4, g5⟩
/-- data without lists -/
theorem Dv.noLst {H : Hp} {a : Addr} {xs : List V} {o : HO} (e : H a = some (.lst xs)) {v : V} {d : PyData} (h : Dv H v d) : ∀ (n : (∀ ds, d ≠ .list ds) ∧ ∀ ds, d = .tuple ds → ∀ x ∈ ds, (∀ es, x ≠ .list es) ∧ ∀ es, x = .tuple es → ∀ y ∈ es, (∀ fs, y ≠ .list fs) ∧ ∀ fs, y ≠ .tuple fs), Dv (upd H a o) v d := by
  have keep : ∀ {b : Addr} {ys : List V}, H b = some (.tup ys) → (upd H a o) b = some (.tup ys) := fun {b ys} q => by
    rw [upd_ne (fun z => by rw [z, e] at q; cases q)]
    exact q
  have all1 : ∀ {ds : List PyData} {vs : List V}, (∀ y ∈ ds, (∀ fs, y ≠ .list fs) ∧ ∀ fs, y ≠ .tuple fs) → DvAll H vs ds → DvAll (upd H a o) vs ds := by
    intro ds
    induction ds with
    | nil =>
      intro vs _ h
      rw [h.inv0]
      exact .nil
    | cons y ds ih =>
      intro vs n h
      obtain ⟨z, zs, rfl, hz, ht⟩ := h.inv
      refine .cons ?_ (ih (fun y hy => n y (.tail _ hy)) ht)
      have ny := n y (.head _)
      cases hz with
      | non => exact .non
      | bl b => exact .bl b
      | int i => exact .int i
      | str q => exact .str q
      | lst _ _ _ => exact absurd rfl (ny.1 _)
      | tup _ _ _ => exact absurd rfl (ny.2 _)
  have all2 : ∀ {ds : List PyData} {vs : List V}, (∀ x ∈ ds, (∀ es, x ≠ .list es) ∧ ∀ es, x = .tuple es → ∀ y ∈ es, (∀ fs, y ≠ .list fs) ∧ ∀ fs, y ≠ .tuple fs) → DvAll H vs ds → DvAll (upd H a o) vs ds := by
    intro ds
    induction ds with
    | nil =>
      intro vs _ h
      rw [h.inv0]
      exact .nil
    | cons y ds ih =>
      intro vs n h
      obtain ⟨z, zs, rfl, hz, ht⟩ := h.inv
      refine .cons ?_ (ih (fun y hy => n y (.tail _ hy)) ht)
      have ny := n y (.head _)
      cases hz with
      | non => exact .non
      | bl b => exact .bl b
      | int i => exact .int i
      | str q => exact .str q
      | lst _ _ _ => exact absurd rfl (ny.1 _)
      | tup q hh sm => exact .tup (keep q) (all1 (ny.2 _ rfl) hh) sm
  intro n
  cases h with
  | non => exact .non
  | bl b => exact .bl b
  | int i => exact .int i
  | str q => exact .str q
  | lst _ _ _ => exact absurd rfl (n.1 _)
  | tup q hh sm => exact .tup (keep q) (all2 (n.2 _ rfl) hh) sm
/-- a list that changes is no part of a module -/
theorem MoDv.upd {C p a : Addr} {H : Hp} {m : DM} {xs : List V} {o : HO} (e : H a = some (.lst xs)) (h : MoDv C H p m) : MoDv C (upd H a o) p m := by
  obtain ⟨dx, t1, t2, t3, t4, t5, e0, g1, g2, g3, g4, g5⟩ := h
  have ns : ∀ ss : List Str, (∀ ds, tupS ss ≠ .list ds) ∧ ∀ ds, tupS ss = .tuple ds → ∀ x ∈ ds, (∀ es, x ≠ .list es) ∧ ∀ es, x = .tuple es → ∀ y ∈ es, (∀ fs, y ≠ .list fs) ∧ ∀ fs, y ≠ .tuple fs := fun ss =>
    ⟨fun ds q => (by cases q), fun ds q x hx => by
      cases q
      obtain ⟨s, _, rfl⟩ := List.mem_map.mp hx
      exact ⟨fun es q => (by cases q), fun es q => (by cases q)⟩⟩
  refine ⟨dx, t1, t2, t3, t4, t5, ?_, g1.noLst e (ns _), g2.noLst e (ns _), g3.noLst e (ns _), g4.noLst e ⟨fun ds q => (by cases q), fun ds q x hx => ?_⟩, g5.noLst e ⟨fun ds q => (by cases q), fun ds q x hx => ?_⟩⟩
  · rw [upd_ne (fun z => by rw [z, e] at e0; cases e0)]
    exact e0
  · cases q
    obtain ⟨l, _, rfl⟩ := List.mem_map.mp hx
    refine ⟨fun es q => (by cases q), fun es q y hy => ?_⟩
    cases q
    simp only [List.mem_cons, List.not_mem_nil, or_false] at hy
    rcases hy with rfl | rfl | rfl | rfl <;> exact ⟨fun fs q => (by cases q), fun fs q => (by cases q)⟩
  · cases q
    obtain ⟨c, _, rfl⟩ := List.mem_map.mp hx
    refine ⟨fun es q => (by cases q), fun es q y hy => ?_⟩
    cases q
    simp only [List.mem_cons, List.not_mem_nil, or_false] at hy
    rcases hy with rfl | rfl <;> exact ⟨fun fs q => (by cases q), fun fs q => (by cases q)⟩
/-- Module(..) of right arguments -/
theorem rd_make {C : Addr} {H : Hp} {m : DM} {vs : List V} {Q : VK} (g : GoodDM m) (h : ArgsAt H m vs) (k : ∀ H' p, Same H H' → H p = none → MoDv C H' p m → Q (.ref p) H') :
    ∀ x dx, H x = none → H dx = none → dx ≠ x → spInitG C (.ref x :: (vs ++ [])) (upd (upd H dx (.own x)) x (.ins C dx [])) (fun v H2 => v = .non ∧ Q (.ref x) H2) E0 := fun x dx nx ndx nex => by
  obtain ⟨v1, v2, v3, v4, v5, d1, d2, d3, d4, d5, rfl, ok, h1, h2, h3, h4, h5, q1, q2, q3, q4, q5⟩ := h
  have sx : Same H (upd (upd H dx (.own x)) x (.ins C dx [])) := fun b o e => by
    rw [upd_ne (ne_of_none e nx), upd_ne (ne_of_none e ndx)]
    exact e
  exact ⟨H, x, dx, .str m.name, v1, v2, v3, v4, v5, .str m.name, d1, d2, d3, d4, d5, rfl, nx, sx, upd_same, .str ok, h1, h2, h3, h4, h5, by rw [q5.items]; exact labs_ok _, word_seq q1 q2 q3 q4 q5 g.word, fun H' s' mo => ⟨rfl, k H' x s' nx (moDv q1 q2 q3 q4 q5 mo)⟩⟩
def spMadeM (C : Addr) : Sp := fun vs H Q _ => ∃ (t : Addr) (m : DM), vs = [.ref t] ∧ GoodDM m ∧ Dv H (.ref t) (toldD m) ∧ ∀ H' p, Same H H' → H p = none → MoDv C H' p m → Q (.ref p) H'
def spReadM (C : Addr) : Sp := fun vs H Q _ => ∃ (x n : Str) (ls : List Ln), vs = [.str x] ∧ TextOk x n ls ∧ GoodDM (ls.foldl Ln.put (dm0 n)) ∧ okS n = true ∧ ∀ H' p, Same H H' → MoDv C H' p (ls.foldl Ln.put (dm0 n)) → Q (.ref p) H'
section
variable {P : Program} {w : World} {K : PySem.W.Frag} {mg : Str → Option Value} {base : Heap} {C : Addr}
abbrev s_made : Stmt := topS 38
theorem sc_made : FnScope ["told", "name", "inlets", "outlets", "stations", "links", "calls"] ["told"] (defScope s_made) := ⟨rfl, rfl, rfl, by decide +kernel, rfl, by decide +kernel, by decide +kernel⟩
theorem ok_made (D : Df K mg "_made" s_made ["told"]) (o_Module : Mks P w K mg base "Module" C 6 ["self", "name", "inlets", "outlets", "stations", "links", "calls"] (spInitG C)) : Own P w K mg base "_made" 8 ["told"] (spMadeM C) := by
  refine D.own sc_made (fun vs H Q E h => ?_) (fun f cdv A outer s H vs Q E hr h => ?_)
  · obtain ⟨_, _, rfl, _⟩ := h
    rfl
  · obtain ⟨t, m, rfl, g, hd, k⟩ := h
    refine ⟨_, (pss_cons (ps_asg (pv 0) (pg_tup (by rfl) (pgs_cons (pg_name (i := 1) sc_made.nd rfl (Or.inl rfl)) (pgs_cons (pg_name (i := 2) sc_made.nd rfl (Or.inl rfl)) (pgs_cons (pg_name (i := 3) sc_made.nd rfl (Or.inl rfl)) (pgs_cons (pg_name (i := 4) sc_made.nd rfl (Or.inl rfl)) (pgs_cons (pg_name (i := 5) sc_made.nd rfl (Or.inl rfl)) (pgs_cons (pg_name (i := 6) sc_made.nd rfl (Or.inl rfl)) pgs_nil))))))))
  (pss_one (ps_ret (pe_mks o_Module (hr.mono (by decide)) (pa_cons (pv 1) (pa_cons (pv 2) (pa_cons (pv 3) (pa_cons (pv 4) (pa_cons (pv 5) (pa_cons (pv 6) pa_nil)))))))))), ?_⟩
    cases hd with
    | @tup a xs _ e hx sm =>
      obtain ⟨x0, ys, rfl, d0, hx⟩ := hx.inv
      obtain ⟨x1, ys, rfl, d1, hx⟩ := hx.inv
      obtain ⟨x2, ys, rfl, d2, hx⟩ := hx.inv
      obtain ⟨x3, ys, rfl, d3, hx⟩ := hx.inv
      obtain ⟨x4, ys, rfl, d4, hx⟩ := hx.inv
      obtain ⟨x5, ys, rfl, d5, hx⟩ := hx.inv
      obtain rfl := hx.inv0
      cases d0 with
      | str ok =>
        refine ⟨_, rfl, t, _, rfl, SqT.of e, rfl, _, _, rfl, _, _, rfl, _, _, rfl, _, _, rfl, _, _, rfl, _, _, rfl, rfl, ?_⟩
        refine ⟨_, rfl, _, rfl, _, rfl, _, rfl, _, rfl, _, rfl, ?_⟩
        exact rd_make g ⟨x1, x2, x3, x4, x5, _, _, _, _, _, rfl, ok, d1, d2, d3, d4, d5, Or.inl rfl, Or.inl rfl, Or.inl rfl, Or.inl rfl, Or.inl rfl⟩ k
abbrev s_Module_read : Stmt := inClass (topS 36) 1
theorem sc_Module_read : FnScope ["text", "told"] ["text"] (defScope s_Module_read) := ⟨rfl, rfl, rfl, by decide +kernel, rfl, by decide +kernel, by decide +kernel⟩
theorem ok_readM {f1 : Addr} {fd : FuncData} (F : Fun K "read" "Module.read" s_Module_read f1 fd) (T : Txt mg) (o_modules_told : Own P w K mg base "modules_told" 4 ["text", "many"] spToldM) (o_made : Own P w K mg base "_made" 8 ["told"] (spMadeM C)) : FnOk P w K mg base CX0 9 f1 fd ["text"] (spReadM C) := by
  refine F.ok sc_Module_read (fun vs H Q E h => ?_) (fun cdv A outer s H vs Q E hr h => ?_)
  · obtain ⟨_, _, _, rfl, _⟩ := h
    rfl
  · obtain ⟨x, n, ls, rfl, O, g, okn, k⟩ := h
    refine ⟨_, (pss_cons (ps_set (i := 1) sc_Module_read.nd rfl (Or.inl rfl) (pe_own o_modules_told (hr.mono (by decide)) (pa_cons (pv 0) (pa_cons pe_int pa_nil))))
  (pss_cons (ps_if (pt_cmpR op_eq (pe_callB call_len_seq (by rfl) T.len PySem.boot_len (pa_cons (pv 1) pa_nil)) pe_int (nomark _))
    (pss_one ps_never)
    pss_nil)
  (pss_one (ps_ret (pe_own o_made (hr.mono (by decide)) (pa_cons (pe_ix ix_list (pv 1) pe_int (fun _ _ => rfl)) pa_nil)))))), ?_⟩
    have nm : (ls.foldl Ln.put (dm0 n)).name = n := by
      have : ∀ (ls : List Ln) (m : DM), (∀ l ∈ ls, l.isMod = false) → (ls.foldl Ln.put m).name = m.name := by
        intro ls
        induction ls with
        | nil => intro m _; rfl
        | cons l ls ih =>
          intro m h
          rw [List.foldl_cons, ih _ fun l hl => h l (.tail _ hl)]
          cases l with
          | mod n => have := h _ (.head _); cases this
          | _ => rfl
      exact this ls _ O.nomod
    refine ⟨_, rfl, x, n, ls, rfl, O, ⟨fun y hy => ?_, by rw [nm]; exact okn⟩, fun H1 p t s1 ep hd => ?_⟩
    · rcases List.mem_append.mp hy with hy | hy
      · rcases List.mem_append.mp hy with hy | hy
        · exact g.can.inl y hy
        · exact g.can.out y hy
      · exact g.can.sta y hy
    · refine ⟨_, rfl, p, _, rfl, Or.inl (SqL.of ep), rfl, _, rfl, ?_⟩
      refine iteF ?_
      refine ⟨_, rfl, p, _, 0, .ref t, rfl, rfl, SqL.of ep, atI_nat (j := 0) rfl, t, _, rfl, g, hd, fun H' q s' _ mo => k H' q (s1.trans s') mo⟩
end
end My

namespace My
open PySem PySem.Spec PyProof.Rows L2
local macro_rules | `(tactic| walk_at "side") => `(tactic| first | (dsimp only; omega) | exact ⟨by omega, by omega⟩ | exact Or.inl ⟨by omega, by omega⟩ | exact Or.inr ⟨by omega, by omega⟩ | decide)
local macro_rules | `(tactic| walk_at "sq") => `(tactic| first | assumption | exact SqL.of (by assumption) | exact SqT.of (by assumption) | (refine L2.Same.seq (by assumption) ?_; walk_at "sq") | (refine L2.Same.seqT (by assumption) ?_; walk_at "sq") | exact Or.inl (by walk_at "sq") | exact Or.inr (by walk_at "sq"))
local macro_rules | `(tactic| walk_at "1") => `(tactic| first
  | refine ⟨_, rfl, iteT ?_⟩
  | refine ⟨_, rfl, iteF ?_⟩
  | refine ⟨_, rfl, ?_⟩
  | refine ⟨_, _, rfl, rfl, (by walk_at "side"), ?_⟩
  | refine ⟨_, _, rfl, rfl, ?_⟩
  | refine ⟨_, _, _, _, true, rfl, .ty _, .base (.int _), kit_ty (a := "int") (by decide +kernel), ?_⟩
  | refine ⟨_, _, _, _, false, rfl, .ty _, .base (.int _), kit_ty (a := "int") (by decide +kernel), ?_⟩
  | refine ⟨_, _, rfl, (by walk_at "sq"), ?_⟩
  | refine ⟨_, _, _, _, rfl, rfl, (by walk_at "sq"), (by first | rfl | assumption), ?_⟩
  | refine Or.inl ⟨_, _, _, _, rfl, rfl, (by walk_at "sq"), (by first | rfl | assumption), ?_⟩
  | refine Or.inr (Or.inl ⟨_, _, _, _, rfl, rfl, (by walk_at "sq"), (by first | rfl | assumption), ?_⟩)
  | refine ⟨_, _, rfl, Or.inl ⟨(by walk_at "sq"), ?_⟩⟩
  | refine ⟨rfl, ?_⟩
  | refine iteT ?_
  | refine iteF ?_
  | refine ⟨_, _, _, _, _, rfl, (by assumption), (by assumption), (by assumption), (by assumption), ?_⟩
  | refine Or.inl ⟨_, rfl, ?_⟩
  | refine Or.inr ⟨_, rfl, ?_⟩
  | refine ⟨_, _, rfl, (by walk_at "side"), ?_⟩
  | refine ⟨_, _, rfl, ?_⟩)
local macro_rules | `(tactic| walk_at "fld") => `(tactic| skip)
local macro_rules | `(tactic| walk_at "s") => `(tactic| repeat walk_at "1")
local macro_rules | `(tactic| walk_at "size") => `(tactic| first | exact Nat.le_of_ble_eq_true rfl | (simp only [List.length_map, List.length_append, List.length_cons, List.length_nil]; omega))
local macro_rules | `(tactic| walk_at "new") => `(tactic| (first | refine ⟨(by walk_at "size"), fun p hp => ?_⟩ | refine fun p hp => ?_); (generalize hq : upd _ p _ = H1); (obtain ⟨s, e⟩ := new_facts hp hq); clear hq)
open TL
/-- the lines of a module's text -/
def lnsOf (m : DM) : List Ln := (if m.inl = [] then [] else [.inl m.inl]) ++ ((if m.out = [] then [] else [.out m.out]) ++ ((if m.sta = [] then [] else [.sta m.sta]) ++ (m.calls.map (fun c => Ln.use c.1 c.2) ++ m.links.map fun l => Ln.link l.1 l.2.1 (toString ((l.2.2.1 : Nat) : Int) : String) (toString ((l.2.2.2 : Nat) : Int) : String) l.2.2.1 l.2.2.2)))
def lnsM (m : DM) : List Ln := .mod m.name :: lnsOf m
def textM (m : DM) : Str := Txt.join "\n" ((lnsM m).map lnText)
theorem tl_lnText (l : Ln) : tl (lnText l) = joinL (tl " ") ((l.kind :: l.ws).map tl) := by
  unfold lnText
  rw [join_eq, tl_join]
theorem f_mod (n : Str) : (Str.empty ++ "module ") ++ n = lnText (.mod n) := by
  refine ext_tl ?_
  rw [tl_lnText, tl_append, tl_append]
  show (tl Str.empty ++ tl "module ") ++ tl n = joinL (tl " ") [tl "module", tl n]
  have e : tl Str.empty ++ tl "module " = tl "module" ++ tl " " := by decide
  rw [e]
  simp [joinL]
theorem f_use (a b : Str) : (((Str.empty ++ "use ") ++ a) ++ " ") ++ b = lnText (.use a b) := by
  refine ext_tl ?_
  rw [tl_lnText, tl_append, tl_append, tl_append, tl_append]
  show (((tl Str.empty ++ tl "use ") ++ tl a) ++ tl " ") ++ tl b = joinL (tl " ") [tl "use", tl a, tl b]
  have e : tl Str.empty ++ tl "use " = tl "use" ++ tl " " := by decide
  rw [e]
  simp [joinL]
theorem f_link (a b c d : Str) (i j : Nat) : (((((((Str.empty ++ "link ") ++ a) ++ " ") ++ b) ++ " ") ++ c) ++ " ") ++ d = lnText (.link a b c d i j) := by
  refine ext_tl ?_
  rw [tl_lnText, tl_append, tl_append, tl_append, tl_append, tl_append, tl_append, tl_append, tl_append]
  show (((((((tl Str.empty ++ tl "link ") ++ tl a) ++ tl " ") ++ tl b) ++ tl " ") ++ tl c) ++ tl " ") ++ tl d = joinL (tl " ") [tl "link", tl a, tl b, tl c, tl d]
  have e : tl Str.empty ++ tl "link " = tl "link" ++ tl " " := by decide
  rw [e]
  simp [joinL]
theorem a_mod (n : Str) : "module " ++ n = lnText (.mod n) := by
  rw [← f_mod]
  refine ext_tl ?_
  rw [tl_append, tl_append, tl_append]
  rfl
theorem a_use (a b : Str) : (("use " ++ a) ++ " ") ++ b = lnText (.use a b) := by
  rw [← f_use]
  refine ext_tl ?_
  rw [tl_append, tl_append, tl_append, tl_append, tl_append, tl_append, tl_append]
  rfl
/-! ## how long -/
theorem joinL_len (s : List Nat) (n : Nat) : ∀ ps : List (List Nat), (∀ p ∈ ps, p.length ≤ n) → (joinL s ps).length ≤ (n + s.length) * ps.length
  | [], _ => by simp [joinL]
  | [p], h => by
    have := h p (.head _)
    simp [joinL]
    omega
  | p :: q :: r, h => by
    have h1 := h p (.head _)
    have h2 := joinL_len s n (q :: r) fun x hx => h x (.tail _ hx)
    have e : joinL s (p :: q :: r) = p ++ s ++ joinL s (q :: r) := by simp [joinL]
    rw [e, List.length_append, List.length_append, List.length_cons, Nat.mul_succ]
    omega
theorem join_len {y : Str} {ps : List Str} {n : Nat} (h : ∀ p ∈ ps, p.length ≤ n) : (Txt.join y ps).length ≤ (n + y.length) * ps.length := by
  rw [join_eq, len_tl, tl_join, len_tl y]
  have := joinL_len (tl y) n (ps.map tl) fun p hp => by
    obtain ⟨q, hq, rfl⟩ := List.mem_map.mp hp
    rw [← len_tl]
    exact h q hq
  rw [List.length_map] at this
  exact this
end My

namespace My
open PySem PySem.Spec PyProof.Rows L2
local macro_rules | `(tactic| walk_at "side") => `(tactic| first | (dsimp only; omega) | exact ⟨by omega, by omega⟩ | exact Or.inl ⟨by omega, by omega⟩ | exact Or.inr ⟨by omega, by omega⟩ | decide)
local macro_rules | `(tactic| walk_at "sq") => `(tactic| first | assumption | exact SqL.of (by assumption) | exact SqT.of (by assumption) | (refine L2.Same.seq (by assumption) ?_; walk_at "sq") | (refine L2.Same.seqT (by assumption) ?_; walk_at "sq") | exact Or.inl (by walk_at "sq") | exact Or.inr (by walk_at "sq"))
local macro_rules | `(tactic| walk_at "1") => `(tactic| first
  | refine ⟨_, rfl, iteT ?_⟩
  | refine ⟨_, rfl, iteF ?_⟩
  | refine ⟨_, rfl, ?_⟩
  | refine ⟨_, _, rfl, rfl, (by walk_at "side"), ?_⟩
  | refine ⟨_, _, rfl, rfl, ?_⟩
  | refine ⟨_, _, _, _, true, rfl, .ty _, .base (.int _), kit_ty (a := "int") (by decide +kernel), ?_⟩
  | refine ⟨_, _, _, _, false, rfl, .ty _, .base (.int _), kit_ty (a := "int") (by decide +kernel), ?_⟩
  | refine ⟨_, _, rfl, (by walk_at "sq"), ?_⟩
  | refine ⟨_, _, _, _, rfl, rfl, (by walk_at "sq"), (by first | rfl | assumption), ?_⟩
  | refine Or.inl ⟨_, _, _, _, rfl, rfl, (by walk_at "sq"), (by first | rfl | assumption), ?_⟩
  | refine Or.inr (Or.inl ⟨_, _, _, _, rfl, rfl, (by walk_at "sq"), (by first | rfl | assumption), ?_⟩)
  | refine ⟨_, _, rfl, Or.inl ⟨(by walk_at "sq"), ?_⟩⟩
  | refine ⟨rfl, ?_⟩
  | refine iteT ?_
  | refine iteF ?_
  | refine ⟨_, _, _, _, _, rfl, (by assumption), (by assumption), (by assumption), (by assumption), ?_⟩
  | refine Or.inl ⟨_, rfl, ?_⟩
  | refine Or.inr ⟨_, rfl, ?_⟩
  | refine ⟨_, _, rfl, (by walk_at "side"), ?_⟩
  | refine ⟨_, _, rfl, ?_⟩)
local macro_rules | `(tactic| walk_at "fld") => `(tactic| skip)
local macro_rules | `(tactic| walk_at "s") => `(tactic| repeat walk_at "1")
local macro_rules | `(tactic| walk_at "size") => `(tactic| first | exact Nat.le_of_ble_eq_true rfl | (simp only [List.length_map, List.length_append, List.length_cons, List.length_nil]; omega))
local macro_rules | `(tactic| walk_at "new") => `(tactic| (first | refine ⟨(by walk_at "size"), fun p hp => ?_⟩ | refine fun p hp => ?_); (generalize hq : upd _ p _ = H1); (obtain ⟨s, e⟩ := new_facts hp hq); clear hq)
open TL
theorem len_app (x y : Str) : (x ++ y).length = x.length + y.length := by rw [len_tl, tl_append, List.length_append, ← len_tl, ← len_tl]
/-- a module whose text can be told -/
structure DMFit (m : DM) : Prop where
  name : m.name.length ≤ 100
  inl : m.inl.length ≤ 100 ∧ ∀ x ∈ m.inl, x.length ≤ 100
  out : m.out.length ≤ 100 ∧ ∀ x ∈ m.out, x.length ≤ 100
  sta : m.sta.length ≤ 100 ∧ ∀ x ∈ m.sta, x.length ≤ 100
  calls : m.calls.length ≤ 100 ∧ ∀ c ∈ m.calls, c.1.length ≤ 100 ∧ c.2.length ≤ 100
  links : m.links.length ≤ 100 ∧ ∀ l ∈ m.links, l.1.length ≤ 100 ∧ l.2.1.length ≤ 100 ∧ l.2.2.1 ≤ 99 ∧ l.2.2.2 ≤ 99
def numS (n : Nat) : Str := (toString ((n : Nat) : Int) : String)
theorem numS_len {n : Nat} (h : n ≤ 99) : (numS n).length ≤ 2 := by
  rw [len_tl, show tl (numS n) = numL n from tl_num n]
  exact numL_len (k := 2) (by decide) (by omega)
def useLn (c : Str × Str) : Ln := .use c.1 c.2
def linkLn (l : Str × Str × Nat × Nat) : Ln := .link l.1 l.2.1 (numS l.2.2.1) (numS l.2.2.2) l.2.2.1 l.2.2.2
theorem lnsOf_eq (m : DM) : lnsOf m = (if m.inl = [] then [] else [.inl m.inl]) ++ ((if m.out = [] then [] else [.out m.out]) ++ ((if m.sta = [] then [] else [.sta m.sta]) ++ (m.calls.map useLn ++ m.links.map linkLn))) := rfl
theorem sum_le : ∀ (L : List Nat) (B : Nat), (∀ x ∈ L, x ≤ B) → L.sum ≤ B * L.length
  | [], _, _ => by simp
  | x :: L, B, h => by
    have ih := sum_le L B (fun y hy => h y (List.mem_cons_of_mem _ hy))
    have hx := h x (List.mem_cons_self ..)
    rw [List.sum_cons, List.length_cons, Nat.mul_succ]
    omega
theorem join_fit {ps : List Str} {s : Str} (h : ∀ p ∈ ps, p.length ≤ 20000) (l : ps.length ≤ 400) (e : s.length = 1) : (ps.map (·.length)).sum + ps.length * s.length ≤ 16777216 := by
  have h1 := sum_le (ps.map (·.length)) 20000 (fun x hx => by
    obtain ⟨y, hy, rfl⟩ := List.mem_map.mp hx
    exact h y hy)
  rw [List.length_map] at h1
  rw [e]
  omega
theorem row_len1 {k : Str} {ws : List Str} (hk : k.length ≤ 100) (h : ws.length ≤ 100 ∧ ∀ x ∈ ws, x.length ≤ 100) : (Txt.join " " (k :: ws)).length ≤ 20000 := by
  have := join_len (y := " ") (ps := k :: ws) (n := 100) fun p hp => by
    rcases List.mem_cons.mp hp with rfl | hp
    · exact hk
    · exact h.2 p hp
  rw [show (" " : Str).length = 1 by decide, List.length_cons] at this
  have := h.1
  omega
theorem ln_len {m : DM} (F : DMFit m) : ∀ l ∈ lnsM m, (lnText l).length ≤ 20000 := by
  intro l hl
  rcases List.mem_cons.mp hl with rfl | hl
  · exact row_len1 (k := "module") (ws := [m.name]) (by decide) ⟨Nat.le_of_ble_eq_true rfl, fun x hx => by rw [List.mem_singleton.mp hx]; exact F.name⟩
  · rw [lnsOf_eq] at hl
    rcases List.mem_append.mp hl with hl | hl
    · split at hl
      · cases hl
      · rw [List.mem_singleton.mp hl]; exact row_len1 (k := "in") (ws := m.inl) (by decide) F.inl
    rcases List.mem_append.mp hl with hl | hl
    · split at hl
      · cases hl
      · rw [List.mem_singleton.mp hl]; exact row_len1 (k := "out") (ws := m.out) (by decide) F.out
    rcases List.mem_append.mp hl with hl | hl
    · split at hl
      · cases hl
      · rw [List.mem_singleton.mp hl]; exact row_len1 (k := "at") (ws := m.sta) (by decide) F.sta
    rcases List.mem_append.mp hl with hl | hl
    · obtain ⟨c, hc, rfl⟩ := List.mem_map.mp hl
      have := F.calls.2 c hc
      exact row_len1 (k := "use") (ws := [c.1, c.2]) (by decide) ⟨Nat.le_of_ble_eq_true rfl, fun x hx => by
        rcases List.mem_cons.mp hx with rfl | hx
        · exact this.1
        · rw [List.mem_singleton.mp hx]; exact this.2⟩
    · obtain ⟨l, hc, rfl⟩ := List.mem_map.mp hl
      obtain ⟨h1, h2, h3, h4⟩ := F.links.2 l hc
      have h3 := numS_len h3
      have h4 := numS_len h4
      exact row_len1 (k := "link") (ws := [l.1, l.2.1, numS l.2.2.1, numS l.2.2.2]) (by decide) ⟨by show 4 ≤ 100; decide, fun x hx => by
        simp only [List.mem_cons, List.not_mem_nil, or_false] at hx
        rcases hx with rfl | rfl | rfl | rfl <;> omega⟩
theorem lns_len {m : DM} (F : DMFit m) : (lnsM m).length ≤ 304 := by
  have h1 := F.calls.1
  have h2 := F.links.1
  have e : (lnsM m).length = 1 + ((if m.inl = [] then [] else [Ln.inl m.inl]).length + ((if m.out = [] then [] else [Ln.out m.out]).length + ((if m.sta = [] then [] else [Ln.sta m.sta]).length + (m.calls.length + m.links.length)))) := by
    unfold lnsM
    rw [lnsOf_eq]
    simp only [List.length_cons, List.length_append, List.length_map]
    omega
  rw [e]
  have f : ∀ (p : Prop) [Decidable p] (x : Ln), (if p then [] else [x]).length ≤ 1 := fun p _ x => by split <;> simp
  have := f (m.inl = []) (Ln.inl m.inl)
  have := f (m.out = []) (Ln.out m.out)
  have := f (m.sta = []) (Ln.sta m.sta)
  omega
theorem text_fit {m : DM} (F : DMFit m) : (((lnsM m).map lnText).map (·.length)).sum + ((lnsM m).map lnText).length * ("\n" : Str).length ≤ 16777216 := by
  refine join_fit (fun p hp => ?_) (by rw [List.length_map]; have := lns_len F; omega) (by decide)
  obtain ⟨l, hl, rfl⟩ := List.mem_map.mp hp
  exact ln_len F l hl
section
variable {K : PySem.W.Frag} {H H' : Hp} {a t : Addr} {x : V}
theorem dp_strs : ∀ {ss : List Str} {xs : List V}, DpAll K H xs (ss.map PyData.str) → xs = ss.map V.str
  | [], xs, h => by cases h; rfl
  | s :: ss, xs, h => by
    cases h with
    | cons h t =>
      cases h
      rw [dp_strs t]
      rfl
theorem dp_tupS {ss : List Str} (h : Dp K H (.ref t) (tupS ss)) : SqT K H t (ss.map V.str) := by
  cases h with
  | tup hs ha =>
    rw [dp_strs ha] at hs
    exact hs
theorem dp_get : ∀ {ds : List PyData} {xs : List V} {i : Nat}, DpAll K H xs ds → xs[i]? = some x → ∃ d, ds[i]? = some d ∧ Dp K H x d
  | _, _, i, .nil, e => by cases i <;> cases e
  | _, _, 0, .cons h t, e => by
    cases e
    exact ⟨_, rfl, h⟩
  | _, _, i + 1, .cons h t, e => dp_get (i := i) t e
theorem dp_len : ∀ {ds : List PyData} {xs : List V}, DpAll K H xs ds → xs.length = ds.length
  | _, _, .nil => rfl
  | _, _, .cons h t => by rw [List.length_cons, List.length_cons, dp_len t]
theorem dp_items {ds : List PyData} (h : Dp K H (.ref t) (.tuple ds)) : ∃ xs, SqT K H t xs ∧ DpAll K H xs ds := by
  cases h with
  | tup hs ha => exact ⟨_, hs, ha⟩
theorem dp_call {c : Str × Str} (h : Dp K H x (callD c)) : ∃ t, x = .ref t ∧ SqT K H t [.str c.1, .str c.2] := by
  cases h with
  | tup hs ha =>
    cases ha with
    | cons h1 ha =>
      cases ha with
      | cons h2 ha =>
        cases ha
        cases h1
        cases h2
        exact ⟨_, rfl, hs⟩
theorem dp_link {l : Str × Str × Nat × Nat} (h : Dp K H x (linkD l)) : ∃ t, x = .ref t ∧ SqT K H t [.str l.1, .str l.2.1, .int l.2.2.1, .int l.2.2.2] := by
  cases h with
  | tup hs ha =>
    cases ha with
    | cons h1 ha =>
      cases ha with
      | cons h2 ha =>
        cases ha with
        | cons h3 ha =>
          cases ha with
          | cons h4 ha =>
            cases ha
            cases h1
            cases h2
            cases h3
            cases h4
            exact ⟨_, rfl, hs⟩
theorem Dp.sameD {v : V} {d : PyData} (s : Same H H') (h : Dp K H v d) : Dp K H' v d :=
  Dp.rec (motive_1 := fun v d _ => Dp K H' v d) (motive_2 := fun vs ds _ => DpAll K H' vs ds) .non (fun b => .bl b) (fun i => .int i) (fun x => .str x) (fun q _ ih => .lst (s.seq q) ih) (fun q _ ih => .tup (s.seqT q) ih) .nil (fun _ _ a b => .cons a b) h
theorem MoAt.same {C p : Addr} {m : DM} (s : Same H H') (h : MoAt K C H p m) : MoAt K C H' p m := by
  obtain ⟨dx, t1, t2, t3, t4, t5, h0, h1, h2, h3, h4, h5⟩ := h
  exact ⟨dx, t1, t2, t3, t4, t5, s _ _ h0, Dp.sameD s h1, Dp.sameD s h2, Dp.sameD s h3, Dp.sameD s h4, Dp.sameD s h5⟩
end
theorem big5 {n : Nat} (h : n ≤ 100000) : n ≤ sizeLine := Nat.le_trans h (by decide)
/-- f"use {a} {b}" -/
theorem rd_fuse {σ : L2.St} {H : Hp} {i j : Nat} {a b : Str} {R : Str → Hp → Prop} (hi : σ[i]? = some (some (.str a))) (hj : σ[j]? = some (some (.str b))) (la : a.length ≤ 100) (lb : b.length ≤ 100) (k : R (lnText (.use a b)) H) :
    tJs [tC (.str "use "), tFmt (tVar i), tC (.str " "), tFmt (tVar j)] Str.empty σ H R := by
  have e0 : Str.empty.length = 0 := by decide
  have e1 : ("use " : Str).length = 4 := by decide
  have e2 : (" " : Str).length = 1 := by decide
  rw [← f_use] at k
  exact ⟨_, rfl, big5 (by simp only [len_app]; omega), _, hi, Or.inl ⟨a, rfl, big5 (by omega), a, rfl, big5 (by simp only [len_app]; omega), _, rfl, big5 (by simp only [len_app]; omega), _, hj, Or.inl ⟨b, rfl, big5 (by omega), b, rfl, big5 (by simp only [len_app]; omega), k⟩⟩⟩
theorem log99 {n : Nat} (h : n ≤ 99) : ((n : Nat) : Int).natAbs.log2 < 1920 := by
  rw [Int.natAbs_natCast]
  by_cases z : n = 0
  · subst z
    decide
  · exact (Nat.log2_lt z).mpr (Nat.lt_of_le_of_lt h (by decide))
theorem rd_flink {σ : L2.St} {H : Hp} {i j k l : Nat} {a b : Str} {x y : Nat} {R : Str → Hp → Prop} (hi : σ[i]? = some (some (.str a))) (hj : σ[j]? = some (some (.str b))) (hk : σ[k]? = some (some (.int (x : Nat)))) (hl : σ[l]? = some (some (.int (y : Nat)))) (la : a.length ≤ 100) (lb : b.length ≤ 100) (lx : x ≤ 99) (ly : y ≤ 99)
    (q : R (lnText (linkLn (a, b, x, y))) H) : tJs [tC (.str "link "), tFmt (tVar i), tC (.str " "), tFmt (tVar j), tC (.str " "), tFmt (tVar k), tC (.str " "), tFmt (tVar l)] Str.empty σ H R := by
  have e0 : Str.empty.length = 0 := by decide
  have e1 : ("link " : Str).length = 5 := by decide
  have e2 : (" " : Str).length = 1 := by decide
  have e3 : (Str.ofString (toString ((x : Nat) : Int))).length ≤ 2 := numS_len lx
  have e4 : (Str.ofString (toString ((y : Nat) : Int))).length ≤ 2 := numS_len ly
  have q : R (lnText (.link a b (numS x) (numS y) x y)) H := q
  rw [← f_link] at q
  exact ⟨_, rfl, big5 (by simp only [len_app]; omega), _, hi, Or.inl ⟨a, rfl, big5 (by omega), a, rfl, big5 (by simp only [len_app]; omega), _, rfl, big5 (by simp only [len_app]; omega), _, hj, Or.inl ⟨b, rfl, big5 (by omega), b, rfl, big5 (by simp only [len_app]; omega), _, rfl, big5 (by simp only [len_app]; omega),
    _, hk, Or.inr ⟨_, rfl, log99 lx, _, rfl, big5 (by simp only [len_app]; omega), _, rfl, big5 (by simp only [len_app]; omega), _, hl, Or.inr ⟨_, rfl, log99 ly, _, rfl, big5 (by simp only [len_app]; omega), q⟩⟩⟩⟩⟩
end My

namespace My
open PySem PySem.Spec PyProof.Rows L2
local macro_rules | `(tactic| walk_at "side") => `(tactic| first | (dsimp only; omega) | exact ⟨by omega, by omega⟩ | exact Or.inl ⟨by omega, by omega⟩ | exact Or.inr ⟨by omega, by omega⟩ | decide)
local macro_rules | `(tactic| walk_at "sq") => `(tactic| first | assumption | exact SqL.of (by assumption) | exact SqT.of (by assumption) | (refine L2.Same.seq (by assumption) ?_; walk_at "sq") | (refine L2.Same.seqT (by assumption) ?_; walk_at "sq") | exact Or.inl (by walk_at "sq") | exact Or.inr (by walk_at "sq"))
local macro_rules | `(tactic| walk_at "1") => `(tactic| first
  | refine ⟨_, rfl, iteT ?_⟩
  | refine ⟨_, rfl, iteF ?_⟩
  | refine ⟨_, rfl, ?_⟩
  | refine ⟨_, _, rfl, rfl, (by walk_at "side"), ?_⟩
  | refine ⟨_, _, rfl, rfl, ?_⟩
  | refine ⟨_, _, _, _, true, rfl, .ty _, .base (.int _), kit_ty (a := "int") (by decide +kernel), ?_⟩
  | refine ⟨_, _, _, _, false, rfl, .ty _, .base (.int _), kit_ty (a := "int") (by decide +kernel), ?_⟩
  | refine ⟨_, _, rfl, (by walk_at "sq"), ?_⟩
  | refine ⟨_, _, _, _, rfl, rfl, (by walk_at "sq"), (by first | rfl | assumption), ?_⟩
  | refine Or.inl ⟨_, _, _, _, rfl, rfl, (by walk_at "sq"), (by first | rfl | assumption), ?_⟩
  | refine Or.inr (Or.inl ⟨_, _, _, _, rfl, rfl, (by walk_at "sq"), (by first | rfl | assumption), ?_⟩)
  | refine ⟨_, _, rfl, Or.inl ⟨(by walk_at "sq"), ?_⟩⟩
  | refine ⟨rfl, ?_⟩
  | refine iteT ?_
  | refine iteF ?_
  | refine ⟨_, _, _, _, _, rfl, (by assumption), (by assumption), (by assumption), (by assumption), ?_⟩
  | refine Or.inl ⟨_, rfl, ?_⟩
  | refine Or.inr ⟨_, rfl, ?_⟩
  | refine ⟨_, _, rfl, (by walk_at "side"), ?_⟩
  | refine ⟨_, _, rfl, ?_⟩)
local macro_rules | `(tactic| walk_at "fld") => `(tactic| skip)
local macro_rules | `(tactic| walk_at "s") => `(tactic| repeat walk_at "1")
local macro_rules | `(tactic| walk_at "size") => `(tactic| first | exact Nat.le_of_ble_eq_true rfl | (simp only [List.length_map, List.length_append, List.length_cons, List.length_nil]; omega))
local macro_rules | `(tactic| walk_at "new") => `(tactic| (first | refine ⟨(by walk_at "size"), fun p hp => ?_⟩ | refine fun p hp => ?_); (generalize hq : upd _ p _ = H1); (obtain ⟨s, e⟩ := new_facts hp hq); clear hq)
def tUseF : TE := fun σ H Q => tJs [tC (.str "use "), tFmt (tVar 6), tC (.str " "), tFmt (tVar 7)] Str.empty σ H fun out H1 => Q (.str out) H1
def tLinkF : TE := fun σ H Q => tJs [tC (.str "link "), tFmt (tVar 8), tC (.str " "), tFmt (tVar 9), tC (.str " "), tFmt (tVar 10), tC (.str " "), tFmt (tVar 11)] Str.empty σ H fun out H1 => Q (.str out) H1
def spTextOf (K : PySem.W.Frag) (C : Addr) : Sp := fun vs H Q _ => ∃ (p : Addr) (m : DM), vs = [.ref p] ∧ MoAt K C H p m ∧ DMFit m ∧ ∀ H', Same H H' → Q (.str (textM m)) H'
/-- the lines of names -/
def rowLn (l : Ln) : List Ln := if l.ws = [] then [] else [l]
section
variable {P : Program} {w : World} {K : PySem.W.Frag} {mg : Str → Option Value} {base : Heap} {C : Addr}
abbrev s_text_of : Stmt := topS 34
theorem sc_text_of : FnScope ["module", "lines", "kind", "names", "calls", "links", "label", "name", "first", "then", "marks", "lasts"] ["module"] (defScope s_text_of) := ⟨rfl, rfl, rfl, by decide +kernel, rfl, by decide +kernel, by decide +kernel⟩
set_option maxHeartbeats 16000000 in
theorem ok_text_of (D : Df K mg "text_of" s_text_of ["module"]) (T : Txt mg) (R : ModCls K C) : Own P w K mg base "text_of" 1 ["module"] (spTextOf K C) := by
  refine D.own sc_text_of (fun vs H Q E h => ?_) (fun f cdv A outer s H vs Q E hr h => ?_)
  · obtain ⟨_, _, rfl, _⟩ := h
    rfl
  · obtain ⟨p, m, rfl, ⟨dx, t1, t2, t3, t4, t5, h0, h1, h2, h3, h4, h5⟩, F, k⟩ := h
    refine ⟨_, (pss_cons (ps_set (i := 1) sc_text_of.nd rfl (Or.inl rfl) (pe_lst (pa_cons (pe_joined (.cons pe_str (.cons (pe_fmt (pe_fld (pv 0) rfl)) .nil))) pa_nil)))
  (pss_cons (ps_for PassesOwn.never rfl (pi_tup (pe_tup (pa_cons (pe_tup (pa_cons pe_str (pa_cons (pe_fld (pv 0) rfl) pa_nil))) (pa_cons (pe_tup (pa_cons pe_str (pa_cons (pe_fld (pv 0) rfl) pa_nil))) (pa_cons (pe_tup (pa_cons pe_str (pa_cons (pe_fld (pv 0) rfl) pa_nil))) pa_nil))))) (pg_tup (by rfl) (pgs_cons (pg_name (i := 2) sc_text_of.nd rfl (Or.inl rfl)) (pgs_cons (pg_name (i := 3) sc_text_of.nd rfl (Or.inl rfl)) pgs_nil)))
    (pss_one (ps_if (pt_cmpR op_gt (pe_callB call_len_seq (by rfl) T.len PySem.boot_len (pa_cons (pv 3) pa_nil)) pe_int (nomark _))
      (pss_one (ps_expr (pe_bm PySem.F.plainAttrs_list PySem.F.slot_list_append PySem.F.type_list_append mt_append (pv 1) (pa_cons (pe_m1 PySem.F.slot_str_join PySem.F.type_str_join mt_join pe_str (pe_lst (pa_cons (pv 2) (StX.pa_star (pv 3) pa_nil)))) pa_nil))))
      pss_nil)))
  (pss_cons (ps_setLc (i := 4) (own := [("label", 6), ("name", 7)]) (g := gTup K 2 (gCons (gName 6) (gCons (gName 7) gNil))) (tt := tYes) (te := tUseF) rfl sc_text_of.nd rfl rfl (sw_true rfl rfl rfl (by decide +kernel)) (pi_tup (pe_fld (pv 0) rfl)) (blkOk_by (own := [("label", 6), ("name", 7)]) (N := ["module", "lines", "kind", "names", "calls", "links", "label", "name", "first", "then", "marks", "lasts"]) (sc := defScope s_text_of) (by decide +kernel)) (fun _ _ _ _ _ => (pg_tup (by rfl) (pgs_cons (pg_name (i := 6) sc_text_of.nd rfl (Or.inl rfl)) (pgs_cons (pg_name (i := 7) sc_text_of.nd rfl (Or.inl rfl)) pgs_nil)))) (fun _ _ _ _ _ => pts_nil) (fun _ _ _ _ _ => (pe_joined (.cons pe_str (.cons (pe_fmt (pv 6)) (.cons pe_str (.cons (pe_fmt (pv 7)) .nil)))))))
  (pss_cons (ps_setLc (i := 5) (own := [("first", 8), ("then", 9), ("marks", 10), ("lasts", 11)]) (g := gTup K 4 (gCons (gName 8) (gCons (gName 9) (gCons (gName 10) (gCons (gName 11) gNil))))) (tt := tYes) (te := tLinkF) rfl sc_text_of.nd rfl rfl (sw_true rfl rfl rfl (by decide +kernel)) (pi_tup (pe_fld (pv 0) rfl)) (blkOk_by (own := [("first", 8), ("then", 9), ("marks", 10), ("lasts", 11)]) (N := ["module", "lines", "kind", "names", "calls", "links", "label", "name", "first", "then", "marks", "lasts"]) (sc := defScope s_text_of) (by decide +kernel)) (fun _ _ _ _ _ => (pg_tup (by rfl) (pgs_cons (pg_name (i := 8) sc_text_of.nd rfl (Or.inl rfl)) (pgs_cons (pg_name (i := 9) sc_text_of.nd rfl (Or.inl rfl)) (pgs_cons (pg_name (i := 10) sc_text_of.nd rfl (Or.inl rfl)) (pgs_cons (pg_name (i := 11) sc_text_of.nd rfl (Or.inl rfl)) pgs_nil)))))) (fun _ _ _ _ _ => pts_nil) (fun _ _ _ _ _ => (pe_joined (.cons pe_str (.cons (pe_fmt (pv 8)) (.cons pe_str (.cons (pe_fmt (pv 9)) (.cons pe_str (.cons (pe_fmt (pv 10)) (.cons pe_str (.cons (pe_fmt (pv 11)) .nil)))))))))))
  (pss_one (ps_ret (pe_m1 PySem.F.slot_str_join PySem.F.type_str_join mt_join pe_str (pe_lst (StX.pa_star (pv 1) (StX.pa_star (pv 4) (StX.pa_star (pv 5) pa_nil))))))))))), ?_⟩
    obtain ⟨l0, l1, l2, l3, l4, l5⟩ := lk_mod (.str m.name) t1 t2 t3 t4 t5
    have q1 := dp_tupS h1
    have q2 := dp_tupS h2
    have q3 := dp_tupS h3
    have fn := F.name
    have e0 : Str.empty.length = 0 := by decide
    have em : ("module " : Str).length = 7 := by decide
    have lL := lns_len F
    refine ⟨_, rfl, big5 (by simp only [len_app]; omega), _, rfl, p, C, dx, _, _, rfl, h0, R.cl, R.n0, l0, Or.inl ⟨m.name, rfl, big5 (by omega), m.name, rfl, big5 (by simp only [len_app]; omega), ?_⟩⟩
    refine ⟨Nat.le_of_ble_eq_true rfl, fun L nL => ?_⟩
    rw [f_mod]
    generalize hq : upd H L _ = H1
    obtain ⟨s1, eL⟩ := new_facts nL hq
    clear hq
    have h01 := s1 _ _ h0
    -- the three rows of names
    refine ⟨_, rfl, p, C, dx, _, _, rfl, h01, R.cl, R.n1, l1, ?_⟩
    refine ⟨Nat.le_of_ble_eq_true rfl, fun p1 n1 => ?_⟩
    generalize hq : upd H1 p1 _ = H2
    obtain ⟨s2, c1⟩ := new_facts n1 hq
    clear hq
    refine ⟨_, rfl, p, C, dx, _, _, rfl, s2 _ _ h01, R.cl, R.n2, l2, ?_⟩
    refine ⟨Nat.le_of_ble_eq_true rfl, fun p2 n2 => ?_⟩
    generalize hq : upd H2 p2 _ = H3
    obtain ⟨s3, c2⟩ := new_facts n2 hq
    clear hq
    refine ⟨_, rfl, p, C, dx, _, _, rfl, s3 _ _ (s2 _ _ h01), R.cl, R.n3, l3, ?_⟩
    refine ⟨Nat.le_of_ble_eq_true rfl, fun p3 n3 => ?_⟩
    generalize hq : upd H3 p3 _ = H4
    obtain ⟨s4, c3⟩ := new_facts n3 hq
    clear hq
    refine ⟨Nat.le_of_ble_eq_true rfl, fun pt nt => ?_⟩
    generalize hq : upd H4 pt _ = H5
    obtain ⟨s5, ct⟩ := new_facts nt hq
    clear hq
    have s25 : Same H1 H5 := s2.trans (s3.trans (s4.trans s5))
    have fL : H L = none := nL
    obtain ⟨G, hG⟩ : ∃ G, G = off L H5 := ⟨_, rfl⟩
    have sG : Same H G := hG ▸ off_to (s1.trans s25) fL
    have sGH : Same G H5 := hG ▸ off_same
    have nG : G L = none := hG ▸ off_at
    have eL5 : H5 L = some (.lst [.str (lnText (.mod m.name))]) := s25 _ _ eL
    have ng : ∀ {a : Addr} {ys : List V}, H5 a = some (.tup ys) → G a = some (.tup ys) := fun {a ys} e => by
      rw [hG, off_ne (fun z => by rw [z, eL5] at e; cases e)]
      exact e
    have g1 := ng ((s3.trans (s4.trans s5)) _ _ c1)
    have g2 := ng ((s4.trans s5) _ _ c2)
    have g3 := ng (s5 _ _ c3)
    have gt := ng ct
    have Q1 := sG.seqT q1
    have Q2 := sG.seqT q2
    have Q3 := sG.seqT q3
    obtain ⟨rows, hrows⟩ : ∃ rows : List (Str × Addr × Ln), rows = [(("in" : Str), t1, Ln.inl m.inl), (("out" : Str), t2, Ln.out m.out), (("at" : Str), t3, Ln.sta m.sta)] := ⟨_, rfl⟩
    have at_ : ∀ (i : Nat) (x : V), [V.ref p1, V.ref p2, V.ref p3][i]? = some x → ∃ a t l, x = .ref a ∧ G a = some (.tup [.str l.kind, .ref t]) ∧ SqT K G t (l.ws.map V.str) ∧ rows.drop i = (l.kind, t, l) :: rows.drop (i + 1) ∧ (l.ws.length ≤ 100 ∧ ∀ x ∈ l.ws, x.length ≤ 100) ∧ l.kind.length ≤ 100 := fun i x hx => by
      rw [hrows]
      match i, hx with
      | 0, hx => cases hx; exact ⟨p1, t1, Ln.inl m.inl, rfl, g1, Q1, rfl, F.inl, (by show ("in" : Str).length ≤ 100; decide)⟩
      | 1, hx => cases hx; exact ⟨p2, t2, Ln.out m.out, rfl, g2, Q2, rfl, F.out, (by show ("out" : Str).length ≤ 100; decide)⟩
      | 2, hx => cases hx; exact ⟨p3, t3, Ln.sta m.sta, rfl, g3, Q3, rfl, F.sta, (by show ("at" : Str).length ≤ 100; decide)⟩
      | _ + 3, hx => cases hx
    have efull : rows.flatMap (fun r => rowLn r.2.2) = rowLn (.inl m.inl) ++ (rowLn (.out m.out) ++ rowLn (.sta m.sta)) := by
      rw [hrows]
      simp [List.flatMap_cons]
    refine ⟨pt, rfl, ⟨_, SqT.of ct⟩, for_seq (H0 := G) (seqIt_t (SqT.of gt)) (fun i σ' H' => ∃ (G' : Hp) (ls : List Ln) (y z : Option V), σ' = [some (.ref p), some (.ref L), y, z, none, none, none, none, none, none, none, none] ∧ Same G G' ∧ Same G' H' ∧ G' L = none ∧ H' L = some (.lst ((Ln.mod m.name :: ls).map fun l => V.str (lnText l))) ∧
      ls ++ (rows.drop i).flatMap (fun r => rowLn r.2.2) = rows.flatMap (fun r => rowLn r.2.2) ∧ ls.length ≤ i) ⟨G, [], none, none, rfl, Same.refl _, sGH, nG, eL5, rfl, Nat.le_refl _⟩ (fun i σ' H' q => by obtain ⟨_, _, _, _, _, a, b, _⟩ := q; exact a.trans b) ?_ ?_⟩
    · rintro i x σ' H' hx ⟨G', ls, y, z, rfl, a1, a2, a3, a4, a5, a6⟩
      have hi : i < 3 := (List.getElem?_eq_some_iff.mp hx).1
      obtain ⟨a, t, l, rfl, ga, qa, ed, fl, lk⟩ := at_ i x hx
      have a12 := a1.trans a2
      rw [ed, List.flatMap_cons] at a5
      refine ⟨a, _, rfl, SqT.of (a12 _ _ ga), rfl, _, _, rfl, _, _, rfl, rfl, ?_⟩
      refine ⟨_, rfl, t, _, rfl, Or.inr (a12.seqT qa), _, _, rfl, rfl, _, rfl, ?_⟩
      have e1 : decide ((0 : Int) < ((l.ws.map V.str).length : Int)) = decide (0 < l.ws.length) := decide_eq_decide.mpr (by rw [List.length_map]; omega)
      rw [e1]
      by_cases hz : l.ws = []
      · rw [show decide (0 < l.ws.length) = false by rw [hz]; rfl]
        refine iteF ?_
        rw [show rowLn l = [] from if_pos hz, List.nil_append] at a5
        exact ⟨G', ls, _, _, rfl, a1, a2, a3, a4, a5, by omega⟩
      · rw [show decide (0 < l.ws.length) = true from decide_eq_true (List.length_pos_iff.mpr hz)]
        refine iteT ?_
        rw [show rowLn l = [l] from if_neg hz] at a5
        refine ⟨_, rfl, Or.inl ⟨rfl, _, SqL.of a4⟩, ⟨_, rfl⟩, _, rfl, _, rfl, t, _, rfl, Or.inl (a12.seqT qa), ?_⟩
        refine ⟨Nat.le_trans (show _ ≤ 200 by simp only [List.length_cons, List.length_append, List.length_map, List.length_nil]; omega) (by decide), fun u nu => ?_⟩
        generalize hq : upd H' u _ = H6
        obtain ⟨s6, c6⟩ := new_facts nu hq
        clear hq
        refine ⟨_, _, l.kind :: l.ws, rfl, rfl, Or.inl (SqL.of (by rw [c6, List.append_nil]; rfl)), join_fit (fun y hy => ?_) (by rw [List.length_cons]; omega) (by decide), ?_⟩
        · rcases List.mem_cons.mp hy with rfl | hy
          · omega
          · have := fl.2 y hy
            omega
        · refine ⟨L, _, _, rfl, rfl, s6 _ _ a4, Nat.lt_of_le_of_lt (show _ ≤ 100 by simp only [List.length_map, List.length_cons]; omega) (by decide), ?_⟩
          refine ⟨G', ls ++ [l], _, _, rfl, a1, same_beside (a2.trans s6) a3, a3, ?_, ?_, by rw [List.length_append, List.length_singleton]; omega⟩
          · rw [upd_same, ← List.cons_append, List.map_append]
            rfl
          · rw [List.append_assoc]
            exact a5
    · rintro σ' H6 ⟨G', ls, y, z, rfl, a1, a2, a3, a4, a5, a6⟩
      have els : ls = rowLn (.inl m.inl) ++ (rowLn (.out m.out) ++ rowLn (.sta m.sta)) := by
        rw [← efull, ← a5, hrows]
        simp
      have sH6 : Same H H6 := (sG.trans a1).trans a2
      -- calls
      obtain ⟨xs5, qs5, ds5⟩ := dp_items (Dp.sameD sH6 h5)
      have ln5 := dp_len ds5
      rw [List.length_map] at ln5
      have f5 := F.calls
      refine ⟨_, rfl, p, C, dx, _, _, rfl, sH6 _ _ h0, R.cl, R.n5, l5, t5, rfl, ⟨_, qs5⟩, fun A5 nA => lc_seq (seqIt_t qs5) (fun i H' => Same H6 H' ∧ H' A5 = some (.lst ((m.calls.take i).map fun c => V.str (lnText (useLn c))))) ⟨same_upd nA, upd_same⟩ (fun i H' q => q.1) ?_ ?_⟩
      · rintro i x H' hx ⟨s7, e7⟩
        obtain ⟨d, hd, hdx⟩ := dp_get ds5 hx
        rw [List.getElem?_map] at hd
        cases hc : m.calls[i]? with
        | none => rw [hc] at hd; cases hd
        | some c =>
          rw [hc] at hd
          obtain rfl := Option.some.inj (show some (callD c) = some d from hd)
          obtain ⟨t, rfl, qt⟩ := dp_call (Dp.sameD s7 hdx)
          have fc := f5.2 c (List.mem_of_getElem? hc)
          have hi : i < m.calls.length := (List.getElem?_eq_some_iff.mp hc).1
          refine ⟨t, _, rfl, qt, rfl, _, _, rfl, _, _, rfl, rfl, rfl, rd_fuse rfl rfl fc.1 fc.2 ⟨_, e7, ?_, s7.upd1 nA, ?_⟩⟩
          · rw [List.length_map, List.length_take]
            exact Nat.lt_of_le_of_lt (show _ ≤ 100 by omega) (by decide)
          · rw [upd_same, List.take_add_one, hc, List.map_append]
            rfl
      · rintro H7 ⟨s7, e7⟩
        rw [ln5, List.take_length] at e7
        have sH7 := sH6.trans s7
        -- links
        obtain ⟨xs4, qs4, ds4⟩ := dp_items (Dp.sameD sH7 h4)
        have ln4 := dp_len ds4
        rw [List.length_map] at ln4
        have f4 := F.links
        refine ⟨_, rfl, p, C, dx, _, _, rfl, sH7 _ _ h0, R.cl, R.n4, l4, t4, rfl, ⟨_, qs4⟩, fun A4 nA4 => lc_seq (seqIt_t qs4) (fun i H' => Same H7 H' ∧ H' A4 = some (.lst ((m.links.take i).map fun c => V.str (lnText (linkLn c))))) ⟨same_upd nA4, upd_same⟩ (fun i H' q => q.1) ?_ ?_⟩
        · rintro i x H' hx ⟨s8, e8⟩
          obtain ⟨d, hd, hdx⟩ := dp_get ds4 hx
          rw [List.getElem?_map] at hd
          cases hc : m.links[i]? with
          | none => rw [hc] at hd; cases hd
          | some c =>
            rw [hc] at hd
            obtain rfl := Option.some.inj (show some (linkD c) = some d from hd)
            obtain ⟨t, rfl, qt⟩ := dp_link (Dp.sameD s8 hdx)
            obtain ⟨fc1, fc2, fc3, fc4⟩ := f4.2 c (List.mem_of_getElem? hc)
            have hi : i < m.links.length := (List.getElem?_eq_some_iff.mp hc).1
            refine ⟨t, _, rfl, qt, rfl, _, _, rfl, _, _, rfl, _, _, rfl, _, _, rfl, rfl, rfl, rd_flink rfl rfl rfl rfl fc1 fc2 fc3 fc4 ⟨_, e8, ?_, s8.upd1 nA4, ?_⟩⟩
            · rw [List.length_map, List.length_take]
              exact Nat.lt_of_le_of_lt (show _ ≤ 100 by omega) (by decide)
            · rw [upd_same, List.take_add_one, hc, List.map_append]
              rfl
        · rintro H8 ⟨s8, e8⟩
          rw [ln4, List.take_length] at e8
          have eL8 := s8 _ _ (s7 _ _ a4)
          have e78 := s8 _ _ e7
          refine ⟨⟨_, rfl⟩, ?_⟩
          refine ⟨_, rfl, L, _, rfl, Or.inr (SqL.of eL8), _, rfl, A5, _, rfl, Or.inr (SqL.of e78), _, rfl, A4, _, rfl, Or.inr (SqL.of e8), ?_⟩
          have ecat : (Ln.mod m.name :: ls).map (fun l => V.str (lnText l)) ++ (m.calls.map (fun c => V.str (lnText (useLn c))) ++ (m.links.map (fun c => V.str (lnText (linkLn c))) ++ [])) = ((lnsM m).map lnText).map V.str := by
            rw [els, List.append_nil]
            unfold lnsM
            rw [lnsOf_eq]
            simp only [rowLn, Ln.ws, List.map_cons, List.map_append, List.map_map, List.append_assoc, List.cons_append]
            rfl
          refine ⟨?_, fun u nu => ?_⟩
          · rw [ecat, List.length_map, List.length_map]
            exact Nat.le_trans lL (by decide)
          · generalize hq : upd H8 u _ = H9
            obtain ⟨s9, c9⟩ := new_facts nu hq
            clear hq
            rw [ecat] at c9
            exact ⟨_, _, _, rfl, rfl, Or.inl (SqL.of c9), text_fit F, k H9 (sH7.trans (s8.trans s9))⟩
/-- str(module) -/
abbrev s_Module_str : Stmt := inClass (topS 36) 3
theorem sc_Module_str : FnScope ["self"] ["self"] (defScope s_Module_str) := ⟨rfl, rfl, rfl, by decide +kernel, rfl, by decide +kernel, by decide +kernel⟩
theorem ok_strM {f1 : Addr} {fd : FuncData} (F : Fun K "__str__" "Module.__str__" s_Module_str f1 fd) (T : Txt mg) (o_text_of : Own P w K mg base "text_of" 1 ["module"] (spTextOf K C)) : FnOk P w K mg base CX0 2 f1 fd ["self"] (spTextOf K C) := by
  refine F.ok sc_Module_str (fun vs H Q E h => ?_) (fun cdv A outer s H vs Q E hr h => ?_)
  · obtain ⟨_, _, rfl, _⟩ := h
    rfl
  · obtain ⟨p, m, rfl, hM, F, k⟩ := h
    refine ⟨_, pss_one (ps_ret (pe_callTy SkE.call_str_str (by rfl) T.str (by decide +kernel) (pa_cons (pe_own o_text_of (hr.mono (by decide)) (pa_cons (pv 0) pa_nil)) pa_nil))), ?_⟩
    exact ⟨_, rfl, p, m, rfl, hM, F, fun H' s' => ⟨_, rfl, k H' s'⟩⟩
end
end My

namespace My
open PySem PySem.Spec PyProof.Rows L2
local macro_rules | `(tactic| walk_at "side") => `(tactic| first | (dsimp only; omega) | exact ⟨by omega, by omega⟩ | exact Or.inl ⟨by omega, by omega⟩ | exact Or.inr ⟨by omega, by omega⟩ | decide)
local macro_rules | `(tactic| walk_at "sq") => `(tactic| first | assumption | exact SqL.of (by assumption) | exact SqT.of (by assumption) | (refine L2.Same.seq (by assumption) ?_; walk_at "sq") | (refine L2.Same.seqT (by assumption) ?_; walk_at "sq") | exact Or.inl (by walk_at "sq") | exact Or.inr (by walk_at "sq"))
local macro_rules | `(tactic| walk_at "1") => `(tactic| first
  | refine ⟨_, rfl, iteT ?_⟩
  | refine ⟨_, rfl, iteF ?_⟩
  | refine ⟨_, rfl, ?_⟩
  | refine ⟨_, _, rfl, rfl, (by walk_at "side"), ?_⟩
  | refine ⟨_, _, rfl, rfl, ?_⟩
  | refine ⟨_, _, _, _, true, rfl, .ty _, .base (.int _), kit_ty (a := "int") (by decide +kernel), ?_⟩
  | refine ⟨_, _, _, _, false, rfl, .ty _, .base (.int _), kit_ty (a := "int") (by decide +kernel), ?_⟩
  | refine ⟨_, _, rfl, (by walk_at "sq"), ?_⟩
  | refine ⟨_, _, _, _, rfl, rfl, (by walk_at "sq"), (by first | rfl | assumption), ?_⟩
  | refine Or.inl ⟨_, _, _, _, rfl, rfl, (by walk_at "sq"), (by first | rfl | assumption), ?_⟩
  | refine Or.inr (Or.inl ⟨_, _, _, _, rfl, rfl, (by walk_at "sq"), (by first | rfl | assumption), ?_⟩)
  | refine ⟨_, _, rfl, Or.inl ⟨(by walk_at "sq"), ?_⟩⟩
  | refine ⟨rfl, ?_⟩
  | refine iteT ?_
  | refine iteF ?_
  | refine ⟨_, _, _, _, _, rfl, (by assumption), (by assumption), (by assumption), (by assumption), ?_⟩
  | refine Or.inl ⟨_, rfl, ?_⟩
  | refine Or.inr ⟨_, rfl, ?_⟩
  | refine ⟨_, _, rfl, (by walk_at "side"), ?_⟩
  | refine ⟨_, _, rfl, ?_⟩)
local macro_rules | `(tactic| walk_at "fld") => `(tactic| skip)
local macro_rules | `(tactic| walk_at "s") => `(tactic| repeat walk_at "1")
local macro_rules | `(tactic| walk_at "size") => `(tactic| first | exact Nat.le_of_ble_eq_true rfl | (simp only [List.length_map, List.length_append, List.length_cons, List.length_nil]; omega))
local macro_rules | `(tactic| walk_at "new") => `(tactic| (first | refine ⟨(by walk_at "size"), fun p hp => ?_⟩ | refine fun p hp => ?_); (generalize hq : upd _ p _ = H1); (obtain ⟨s, e⟩ := new_facts hp hq); clear hq)
/-- the empty tuple among the module's constants -/
structure KEmp (K : PySem.W.Frag) (u : Addr) : Prop where
  sq : ∀ H, SqT K H u []
  ty : ∀ H, TyX K H (.ref u) (.type "tuple")
def spSeqU (u : Addr) : Sp := fun vs H Q E => spD isSeqD vs H Q E ∨ (vs = [.ref u] ∧ ∀ H', Same H H' → Q (.bl true) H')
def spLabelsU (u : Addr) : Sp := fun vs H Q _ => vs = [.ref u] ∧ ∀ p H', Same H H' → H p = none → H' p = some (.lst []) → Q (.ref p) H'
/-- a name, four empty lists and the constant -/
def spWrongU (u : Addr) : Sp := fun vs H Q _ => ∃ (n : Str) (a1 a2 a3 a4 : Addr), vs = [.str n, .ref a1, .ref a2, .ref a3, .ref a4, .ref u] ∧ nameS n = true ∧ H a1 = some (.lst []) ∧ H a2 = some (.lst []) ∧ H a3 = some (.lst []) ∧ H a4 = some (.lst []) ∧ ∀ H', Same H H' → Q .non H'
def spInitU (C u : Addr) : Sp := fun vs H Q _ => ∃ (H0 : Hp) (p dx : Addr) (n : Str) (a1 a2 a3 a4 : Addr), vs = [.ref p, .str n, .ref a1, .ref a2, .ref a3, .ref a4, .ref u] ∧ H0 p = none ∧ Same H0 H ∧ H p = some (.ins C dx []) ∧ nameS n = true ∧ H0 a1 = some (.lst []) ∧ H0 a2 = some (.lst []) ∧ H0 a3 = some (.lst []) ∧ H0 a4 = some (.lst []) ∧
  ∀ H' t1 t2 t3 t4, Same H0 H' → H' p = some (.ins C dx (modF (.str n) t1 t2 t3 t4 u)) → H' t1 = some (.tup []) → H' t2 = some (.tup []) → H' t3 = some (.tup []) → H' t4 = some (.tup []) → Q .non H'
section
variable {P : Program} {w : World} {K : PySem.W.Frag} {mg : Str → Option Value} {base : Heap} {C u : Addr}
theorem ok_is_sequenceU (D : Df K mg "is_sequence" s_is_sequence ["value"]) (T : Txt mg) (U : KEmp K u) : Own P w K mg base "is_sequence" 1 ["value"] (spSeqU u) := by
  refine D.own sc_is_sequence (fun vs H Q E h => ?_) (fun f cdv A outer s H vs Q E hr h => ?_)
  · rcases h with ⟨_, _, rfl, _⟩ | ⟨rfl, _⟩ <;> rfl
  · rcases h with ⟨v, d, rfl, hv, k⟩ | ⟨rfl, k⟩
    · refine ⟨_, (pss_one (ps_ret (pe_callB call_isiT (by rfl) T.isinstance (by decide +kernel) (pa_cons (pv 0) (pa_cons (pe_tup (pa_cons (pe_bltn (v := .ty "list") (by rfl) T.list (by decide +kernel) rfl) (pa_cons (pe_bltn (v := .ty "tuple") (by rfl) T.tuple (by decide +kernel) rfl) pa_nil))) pa_nil))))), ?_⟩
      refine ⟨_, rfl, Nat.le_of_ble_eq_true rfl, fun p np => ?_⟩
      generalize hq : upd H p _ = H1
      obtain ⟨s1, e1⟩ := new_facts np hq
      exact rd_seq (hv.same s1) e1 (k _ s1)
    · refine ⟨_, (pss_one (ps_ret (pe_callB call_isiT (by rfl) T.isinstance (by decide +kernel) (pa_cons (pv 0) (pa_cons (pe_tup (pa_cons (pe_bltn (v := .ty "list") (by rfl) T.list (by decide +kernel) rfl) (pa_cons (pe_bltn (v := .ty "tuple") (by rfl) T.tuple (by decide +kernel) rfl) pa_nil))) pa_nil))))), ?_⟩
      refine ⟨_, rfl, Nat.le_of_ble_eq_true rfl, fun p np => ?_⟩
      generalize hq : upd H p _ = H1
      obtain ⟨s1, e1⟩ := new_facts np hq
      exact rd_isi2 _ false true e1 (U.ty H1) (by decide +kernel) (by decide +kernel) (k _ s1)
set_option maxHeartbeats 8000000 in
theorem ok_labelsU (D : Df K mg "_labels" s_labels ["calls"]) (T : Txt mg) (U : KEmp K u) (o_is_sequence : Own P w K mg base "is_sequence" 1 ["value"] (spSeqU u)) : Own P w K mg base "_labels" 2 ["calls"] (spLabelsU u) := by
  refine D.own sc_labels (fun vs H Q E h => ?_) (fun f cdv A outer s H vs Q E hr h => ?_)
  · obtain ⟨rfl, _⟩ := h
    rfl
  · obtain ⟨rfl, k⟩ := h
    refine ⟨_, (pss_cons (ps_if (pt_not (pt_val (pe_own o_is_sequence (hr.mono (by decide)) (pa_cons (pv 0) pa_nil))))
    (pss_one (ps_ret (pe_lst pa_nil)))
    pss_nil)
  (pss_one (ps_ret (pe_lc (own := [("call", 1)]) (g := gName 1) (te := tOp (rIxT K) (tVar 1) (tC (.int 0))) (tt := (tAnd (tTest (tCB (rIsi K) (tCons (tVar 1) (tCons (tC (.ty "tuple")) tNil)))) (tTest (tOp _ (tCB (rLenS K) (tCons (tVar 1) tNil)) (tC (.int 0)))))) rfl sc_labels.nd (pi_alt (pi_list (pv 0)) (pi_tup (pv 0))) (blkOk_by (own := [("call", 1)]) (N := ["calls", "call"]) (sc := defScope s_labels) (by decide +kernel)) (fun _ _ _ _ _ => (pg_name (i := 1) sc_labels.nd rfl (Or.inl rfl))) (fun _ _ _ _ _ => (pts_one (PW.pt (pw_and (pt_val (pe_callB call_isi (by rfl) T.isinstance (by decide +kernel) (pa_cons (pv 1) (pa_cons (pe_bltn (v := .ty "tuple") (u := .type "tuple") (by rfl) T.tuple (by decide +kernel) rfl) pa_nil)))) (pw_and1 (pt_cmpR op_gt (pe_callB call_len_seq (by rfl) T.len PySem.boot_len (pa_cons (pv 1) pa_nil)) pe_int (nomark _))))))) (fun _ _ _ _ _ => (pe_ix ix_tup (pv 1) pe_int (fun _ _ => rfl))))))), ?_⟩
    refine ⟨_, rfl, Or.inr ⟨rfl, fun H0 s0 => ⟨_, rfl, ?_⟩⟩⟩
    refine iteF ?_
    refine seq_pi (Or.inr (U.sq H0)) rfl fun J hJ => fun L nL => lc_seq hJ (fun i H' => H' = upd H0 L (.lst [])) rfl (fun i H' q => by rw [q]; exact same_upd nL) (fun i x H' hx _ => absurd hx (by simp)) ?_
    intro H1 e1
    rw [e1]
    exact k L _ (s0.trans (same_upd nL)) (s0.free nL) upd_same
set_option maxHeartbeats 16000000 in
theorem ok_wrongU (D : Df K mg "_wrong_argument" s_wrong_argument ["name", "inlets", "outlets", "stations", "links", "calls"]) (T : Txt mg) (U : KEmp K u) (o_is_name : Own P w K mg base "is_name" 1 ["value"] (spD isNameD)) (o_is_sequence : Own P w K mg base "is_sequence" 1 ["value"] (spSeqU u))
    (o_are_free : Own P w K mg base "_are_free" 2 ["names", "taken"] spFree) (o_labels : Own P w K mg base "_labels" 2 ["calls"] (spLabelsU u)) (o_is_call : Own P w K mg base "_is_call" 2 ["call"] (spD isCallD))
    (o_is_right_link : Own P w K mg base "_is_right_link" 4 ["link", "begins", "ends", "labels"] spRight) : Own P w K mg base "_wrong_argument" 5 ["name", "inlets", "outlets", "stations", "links", "calls"] (spWrongU u) := by
  refine D.own sc_wrong_argument (fun vs H Q E h => ?_) (fun f cdv A outer s H vs Q E hr h => ?_)
  · obtain ⟨_, _, _, _, _, rfl, _⟩ := h
    rfl
  · obtain ⟨n, a1, a2, a3, a4, rfl, hn, e1, e2, e3, e4, k⟩ := h
    refine ⟨_, (pss_cons (ps_if (pt_not (pt_val (pe_own o_is_name (hr.mono (by decide)) (pa_cons (pv 0) pa_nil))))
    (pss_one (ps_ret pe_str))
    pss_nil)
  (pss_cons (ps_set (i := 6) sc_wrong_argument.nd rfl (Or.inl rfl) (pe_lst pa_nil))
  (pss_cons (ps_for PassesOwn.never rfl (pi_tup (pe_tup (pa_cons (pe_tup (pa_cons pe_str (pa_cons (pv 1) pa_nil))) (pa_cons (pe_tup (pa_cons pe_str (pa_cons (pv 2) pa_nil))) (pa_cons (pe_tup (pa_cons pe_str (pa_cons (pv 3) pa_nil))) pa_nil))))) (pg_tup (by rfl) (pgs_cons (pg_name (i := 7) sc_wrong_argument.nd rfl (Or.inl rfl)) (pgs_cons (pg_name (i := 8) sc_wrong_argument.nd rfl (Or.inl rfl)) pgs_nil)))
    (pss_cons (ps_if (PW.pt (pw_or (pt_not (pt_val (pe_own o_is_sequence (hr.mono (by decide)) (pa_cons (pv 8) pa_nil)))) (pw_or1 (pt_not (pt_val (pe_own o_are_free (hr.mono (by decide)) (pa_cons (pv 8) (pa_cons (pv 6) pa_nil))))))))
        (pss_one (ps_ret (pv 7)))
        pss_nil)
      (pss_one (ps_expr (pe_bm PySem.F.plainAttrs_list PySem.F.slot_list_extend PySem.F.type_list_extend mt_extendS (pv 6) (pa_cons (pv 8) pa_nil))))))
  (pss_cons (ps_set (i := 9) sc_wrong_argument.nd rfl (Or.inr rfl) (pe_own o_labels (hr.mono (by decide)) (pa_cons (pv 5) pa_nil)))
  (pss_cons (ps_set (i := 10) sc_wrong_argument.nd rfl (Or.inr rfl) (pe_lst (StX.pa_star (pv 1) (StX.pa_star (pv 3) pa_nil))))
  (pss_cons (ps_set (i := 11) sc_wrong_argument.nd rfl (Or.inr rfl) (pe_lst (StX.pa_star (pv 3) (StX.pa_star (pv 2) pa_nil))))
  (pss_cons (ps_if (PW.pt (pw_or (pt_not (pt_val (pe_own o_is_sequence (hr.mono (by decide)) (pa_cons (pv 4) pa_nil)))) (pw_or1 (pt_not (pt_val (pe_callB (cr_all rfl) (by rfl) T.all (by decide +kernel) (pa_cons (pe_lc (own := [("link", 12)]) (g := gName 12) (tt := tYes) rfl sc_wrong_argument.nd (pi_alt (pi_list (pv 4)) (pi_tup (pv 4))) (blkOk_by (own := [("link", 12)]) (N := ["name", "inlets", "outlets", "stations", "links", "calls", "taken", "word", "names", "labels", "begins", "ends", "link", "call"]) (sc := defScope s_wrong_argument) (by decide +kernel)) (fun _ _ _ _ _ => (pg_name (i := 12) sc_wrong_argument.nd rfl (Or.inl rfl))) (fun _ _ _ _ _ => pts_nil) (fun _ _ _ _ _ => (pe_own o_is_right_link (hr.mono (by decide)) (pa_cons (pv 12) (pa_cons (pv 10) (pa_cons (pv 11) (pa_cons (pv 9) pa_nil))))))) pa_nil)))))))
    (pss_one (ps_ret pe_str))
    pss_nil)
  (pss_cons (ps_if (PW.pt (pw_or (pt_not (pt_val (pe_own o_is_sequence (hr.mono (by decide)) (pa_cons (pv 5) pa_nil)))) (pw_or (pt_not (pt_val (pe_callB (cr_all rfl) (by rfl) T.all (by decide +kernel) (pa_cons (pe_lc (own := [("call", 13)]) (g := gName 13) (tt := tYes) rfl sc_wrong_argument.nd (pi_alt (pi_list (pv 5)) (pi_tup (pv 5))) (blkOk_by (own := [("call", 13)]) (N := ["name", "inlets", "outlets", "stations", "links", "calls", "taken", "word", "names", "labels", "begins", "ends", "link", "call"]) (sc := defScope s_wrong_argument) (by decide +kernel)) (fun _ _ _ _ _ => (pg_name (i := 13) sc_wrong_argument.nd rfl (Or.inl rfl))) (fun _ _ _ _ _ => pts_nil) (fun _ _ _ _ _ => (pe_own o_is_call (hr.mono (by decide)) (pa_cons (pv 13) pa_nil)))) pa_nil)))) (pw_or1 (pt_not (pt_val (pe_own o_are_free (hr.mono (by decide)) (pa_cons (pv 9) (pa_cons (pv 6) pa_nil)))))))))
    (pss_one (ps_ret pe_str))
    pss_nil)
  (pss_one (ps_ret pe_non)))))))))), ?_⟩
    have okn : okS n = true := okS_name hn
    refine ⟨_, rfl, .str n, .str n, rfl, .str okn, fun H1 s1 => ⟨_, rfl, ?_⟩⟩
    rw [show isNameD (.str n) = true from hn]
    refine iteF ?_
    refine ⟨Nat.zero_le _, fun L nL => ?_⟩
    generalize hq : upd H1 L _ = H2
    obtain ⟨s2, eL⟩ := new_facts nL hq
    clear hq
    refine ⟨_, rfl, Nat.le_of_ble_eq_true rfl, fun p1 n1 => ?_⟩
    generalize hq : upd H2 p1 _ = H3
    obtain ⟨s3, g1⟩ := new_facts n1 hq
    clear hq
    refine ⟨_, rfl, Nat.le_of_ble_eq_true rfl, fun p2 n2 => ?_⟩
    generalize hq : upd H3 p2 _ = H4
    obtain ⟨s4, g2⟩ := new_facts n2 hq
    clear hq
    refine ⟨_, rfl, Nat.le_of_ble_eq_true rfl, fun p3 n3 => ?_⟩
    generalize hq : upd H4 p3 _ = H5
    obtain ⟨s5, g3⟩ := new_facts n3 hq
    clear hq
    refine ⟨Nat.le_of_ble_eq_true rfl, fun pt nt => ?_⟩
    generalize hq : upd H5 pt _ = H6
    obtain ⟨s6, gt⟩ := new_facts nt hq
    clear hq
    have s16 := s2.trans (s3.trans (s4.trans (s5.trans s6)))
    have sH6 := s1.trans s16
    have eL6 : H6 L = some (.lst []) := (s3.trans (s4.trans (s5.trans s6))) _ _ eL
    have b1 := (s4.trans (s5.trans s6)) _ _ g1
    have b2 := (s5.trans s6) _ _ g2
    have b3 := s6 _ _ g3
    have at_ : ∀ (i : Nat) (x : V), [V.ref p1, V.ref p2, V.ref p3][i]? = some x → ∃ p wd a, x = .ref p ∧ H6 p = some (.tup [.str wd, .ref a]) ∧ H6 a = some (.lst []) := fun i x hx => by
      match i, hx with
      | 0, hx => cases hx; exact ⟨p1, _, a1, rfl, b1, sH6 _ _ e1⟩
      | 1, hx => cases hx; exact ⟨p2, _, a2, rfl, b2, sH6 _ _ e2⟩
      | 2, hx => cases hx; exact ⟨p3, _, a3, rfl, b3, sH6 _ _ e3⟩
      | _ + 3, hx => cases hx
    refine ⟨pt, rfl, ⟨_, SqT.of gt⟩, for_seq (seqIt_t (SqT.of gt)) (fun i σ' H' => ∃ (y z : Option V), σ' = [some (.str n), some (.ref a1), some (.ref a2), some (.ref a3), some (.ref a4), some (.ref u), some (.ref L), y, z, none, none, none, none, none] ∧ Same H6 H') ⟨none, none, rfl, Same.refl _⟩ (fun i σ' H' q => by obtain ⟨_, _, _, q⟩ := q; exact q) ?_ ?_⟩
    · rintro i x σ' H' hx ⟨y, z, rfl, s'⟩
      obtain ⟨p, wd, a, rfl, gp, ga⟩ := at_ i x hx
      refine ⟨p, _, rfl, SqT.of (s' _ _ gp), rfl, _, _, rfl, _, _, rfl, rfl, ?_⟩
      refine ⟨_, rfl, Or.inl ⟨.ref a, .list [], rfl, .lst (s' _ _ ga) .nil (Nat.zero_le _), fun Ha sa => ⟨_, rfl, ?_⟩⟩⟩
      refine iteF ?_
      refine ⟨_, rfl, _, rfl, .ref a, .list [], L, [], rfl, .lst (sa _ _ (s' _ _ ga)) .nil (Nat.zero_le _), rfl, sa _ _ (s' _ _ eL6), fun Hb sb => ⟨_, rfl, ?_⟩⟩
      rw [show areFree (itemsD (.list [])) [] = true by decide]
      refine iteF ?_
      have sab := s'.trans (sa.trans sb)
      refine ⟨_, rfl, Or.inl ⟨rfl, _, SqL.of (sab _ _ eL6)⟩, _, rfl, L, a, [], [], rfl, rfl, sab _ _ eL6, Or.inl (sab _ _ ga), Nat.zero_le _, _, _, rfl, ?_⟩
      intro c o e
      by_cases w1 : c = L
      · rw [w1, eL6] at e
        rw [w1, upd_same]
        exact e
      · rw [upd_ne w1]
        exact sab _ _ e
    · rintro σ' H7 ⟨y, z, rfl, s7⟩
      have sH7 := sH6.trans s7
      refine ⟨_, rfl, rfl, fun B H8 s8 nB eB => ?_⟩
      have sH8 := sH7.trans s8
      refine ⟨_, rfl, a1, _, rfl, Or.inr (SqL.of (sH8 _ _ e1)), _, rfl, a3, _, rfl, Or.inr (SqL.of (sH8 _ _ e3)), ?_⟩
      refine ⟨Nat.zero_le _, fun c1 m1 => ?_⟩
      generalize hq : upd H8 c1 _ = H9
      obtain ⟨s9, ec1⟩ := new_facts m1 hq
      clear hq
      have sH9 := sH8.trans s9
      refine ⟨_, rfl, a3, _, rfl, Or.inr (SqL.of (sH9 _ _ e3)), _, rfl, a2, _, rfl, Or.inr (SqL.of (sH9 _ _ e2)), ?_⟩
      refine ⟨Nat.zero_le _, fun c2 m2 => ?_⟩
      generalize hq : upd H9 c2 _ = H10
      obtain ⟨s10, ec2⟩ := new_facts m2 hq
      clear hq
      have sH10 := sH9.trans s10
      have eB10 := s10 _ _ (s9 _ _ eB)
      have eL10 := s10 _ _ (s9 _ _ (s8 _ _ (s7 _ _ eL6)))
      refine ⟨_, rfl, Or.inl ⟨.ref a4, .list [], rfl, .lst (sH10 _ _ e4) .nil (Nat.zero_le _), fun Ha sa => ⟨_, rfl, ?_⟩⟩⟩
      refine iteF ?_
      have sHa := sH10.trans sa
      have hS4 : SqS K Ha a4 [] := Or.inl (SqL.of (sHa _ _ e4))
      refine seq_pi hS4 rfl fun J hJ => fun M nM => lc_seq hJ (fun i H' => H' = upd Ha M (.lst [])) rfl (fun i H' q => by rw [q]; exact same_upd nM) (fun i x H' hx _ => absurd hx (by simp)) ?_
      rintro Hb eb
      have sab : Same Ha Hb := by rw [eb]; exact same_upd nM
      have eM : Hb M = some (.lst []) := by rw [eb]; exact upd_same
      refine ⟨M, [], rfl, SqL.of eM, _, rfl, ?_⟩
      refine iteF ?_
      refine ⟨_, rfl, Or.inr ⟨rfl, fun Hc sc => ⟨_, rfl, ?_⟩⟩⟩
      refine iteF ?_
      refine seq_pi (Or.inr (U.sq Hc)) rfl fun J hJ => fun M2 nM2 => lc_seq hJ (fun i H' => H' = upd Hc M2 (.lst [])) rfl (fun i H' q => by rw [q]; exact same_upd nM2) (fun i x H' hx _ => absurd hx (by simp)) ?_
      rintro Hd ed
      have scd : Same Hc Hd := by rw [ed]; exact same_upd nM2
      have eM2 : Hd M2 = some (.lst []) := by rw [ed]; exact upd_same
      refine ⟨M2, [], rfl, SqL.of eM2, _, rfl, ?_⟩
      refine iteF ?_
      have sad := sa.trans (sab.trans (sc.trans scd))
      refine ⟨_, rfl, _, rfl, .ref B, .list [], L, [], rfl, .lst (sad _ _ eB10) .nil (Nat.zero_le _), rfl, sad _ _ eL10, fun He se => ⟨_, rfl, ?_⟩⟩
      rw [show areFree (itemsD (.list [])) [] = true by decide]
      refine iteF ?_
      exact k He (sH10.trans (sad.trans se))
set_option maxHeartbeats 16000000 in
theorem ok_initU {f1 : Addr} {fd : FuncData} {uv : V} (F : FunD K "__init__" "Module.__init__" (defArgs s_Module_init) (defBody s_Module_init) (defScope s_Module_init) [uv] [] f1 fd) (R : ModCls K C) (T : Txt mg) (U : KEmp K u)
    (o_wrong_argument : Own P w K mg base "_wrong_argument" 5 ["name", "inlets", "outlets", "stations", "links", "calls"] (spWrongU u)) : FnOk P w K mg base CX0 6 f1 fd ["self", "name", "inlets", "outlets", "stations", "links", "calls"] (spInitU C u) := by
  refine F.ok sc_Module_init (fun vs H Q E h => ?_) (fun cdv A outer s H vs Q E hr h => ?_)
  · obtain ⟨_, _, _, _, _, _, _, _, rfl, _⟩ := h
    rfl
  · obtain ⟨H0, p, dx, n, a1, a2, a3, a4, rfl, hp0, s0, hp, hn, e1, e2, e3, e4, kQ⟩ := h
    refine ⟨_, (pss_cons (ps_set (i := 7) sc_Module_init.nd rfl (Or.inl rfl) (pe_own o_wrong_argument (hr.mono (by decide)) (pa_cons (pv 1) (pa_cons (pv 2) (pa_cons (pv 3) (pa_cons (pv 4) (pa_cons (pv 5) (pa_cons (pv 6) pa_nil))))))))
  (pss_cons (ps_if (pt_cmpR op_notN (pv 7) pe_non (nomark _))
    (pss_one ps_never)
    pss_nil)
  (pss_cons (ps_fld (pv 0) (pv 1) rfl)
  (pss_cons (ps_fld (pv 0) (pe_callTy call_tupleN (by rfl) T.tuple (by decide +kernel) (pa_cons (pv 2) pa_nil)) rfl)
  (pss_cons (ps_fld (pv 0) (pe_callTy call_tupleN (by rfl) T.tuple (by decide +kernel) (pa_cons (pv 3) pa_nil)) rfl)
  (pss_cons (ps_fld (pv 0) (pe_callTy call_tupleN (by rfl) T.tuple (by decide +kernel) (pa_cons (pv 4) pa_nil)) rfl)
  (pss_cons (ps_fld (pv 0) (pe_callTy call_tupleN (by rfl) T.tuple (by decide +kernel) (pa_cons (pv 5) pa_nil)) rfl)
  (pss_one (ps_fld (pv 0) (pe_callTy call_tupleN (by rfl) T.tuple (by decide +kernel) (pa_cons (pv 6) pa_nil)) rfl))))))))), ?_⟩
    refine ⟨_, rfl, _, rfl, _, rfl, _, rfl, _, rfl, _, rfl, n, a1, a2, a3, a4, rfl, hn, s0 _ _ e1, s0 _ _ e2, s0 _ _ e3, s0 _ _ e4, fun H1 s1 => ?_⟩
    refine ⟨_, rfl, rfl, _, rfl, ?_⟩
    refine iteF ?_
    have s01 := s0.trans s1
    have np : ∀ {c : Addr} {o : HO}, H0 c = some o → c ≠ p := fun e => ne_of_none e hp0
    have hp1 : H1 p = some (.ins C dx []) := s1 _ _ hp
    refine ⟨_, rfl, _, rfl, p, C, dx, _, rfl, hp1, R.cl, R.n0, (by show 0 < 1000; decide), ?_⟩
    generalize hq : upd H1 p _ = H2
    obtain ⟨i2, o2⟩ := upd_facts hq
    clear hq
    have k2 : Same H0 H2 := fun c o e => by rw [o2 _ (np e)]; exact s01 _ _ e
    refine ⟨_, rfl, a1, [], rfl, Or.inl ⟨SqL.of (k2 _ _ e1), fun t1 m1 => ?_⟩⟩
    generalize hq : upd H2 t1 _ = H3
    obtain ⟨s3, c1⟩ := new_facts m1 hq
    clear hq
    have q1 : t1 ≠ p := (ne_of_none i2 m1).symm
    refine ⟨_, rfl, p, C, dx, _, rfl, s3 _ _ i2, R.cl, R.n1, (by show 1 < 1000; decide), ?_⟩
    generalize hq : upd H3 p _ = H4
    obtain ⟨i4, o4⟩ := upd_facts hq
    clear hq
    have k4 : Same H0 H4 := fun c o e => by rw [o4 _ (np e)]; exact s3 _ _ (k2 _ _ e)
    have c1 : H4 t1 = some (.tup []) := by rw [o4 _ q1]; exact c1
    refine ⟨_, rfl, a2, [], rfl, Or.inl ⟨SqL.of (k4 _ _ e2), fun t2 m2 => ?_⟩⟩
    generalize hq : upd H4 t2 _ = H5
    obtain ⟨s5, c2⟩ := new_facts m2 hq
    clear hq
    have q2 : t2 ≠ p := (ne_of_none i4 m2).symm
    refine ⟨_, rfl, p, C, dx, _, rfl, s5 _ _ i4, R.cl, R.n2, (by show 2 < 1000; decide), ?_⟩
    generalize hq : upd H5 p _ = H6
    obtain ⟨i6, o6⟩ := upd_facts hq
    clear hq
    have k6 : Same H0 H6 := fun c o e => by rw [o6 _ (np e)]; exact s5 _ _ (k4 _ _ e)
    have c1 : H6 t1 = some (.tup []) := by rw [o6 _ q1]; exact s5 _ _ c1
    have c2 : H6 t2 = some (.tup []) := by rw [o6 _ q2]; exact c2
    refine ⟨_, rfl, a3, [], rfl, Or.inl ⟨SqL.of (k6 _ _ e3), fun t3 m3 => ?_⟩⟩
    generalize hq : upd H6 t3 _ = H7
    obtain ⟨s7, c3⟩ := new_facts m3 hq
    clear hq
    have q3 : t3 ≠ p := (ne_of_none i6 m3).symm
    refine ⟨_, rfl, p, C, dx, _, rfl, s7 _ _ i6, R.cl, R.n3, (by show 3 < 1000; decide), ?_⟩
    generalize hq : upd H7 p _ = H8
    obtain ⟨i8, o8⟩ := upd_facts hq
    clear hq
    have k8 : Same H0 H8 := fun c o e => by rw [o8 _ (np e)]; exact s7 _ _ (k6 _ _ e)
    have c1 : H8 t1 = some (.tup []) := by rw [o8 _ q1]; exact s7 _ _ c1
    have c2 : H8 t2 = some (.tup []) := by rw [o8 _ q2]; exact s7 _ _ c2
    have c3 : H8 t3 = some (.tup []) := by rw [o8 _ q3]; exact c3
    refine ⟨_, rfl, a4, [], rfl, Or.inl ⟨SqL.of (k8 _ _ e4), fun t4 m4 => ?_⟩⟩
    generalize hq : upd H8 t4 _ = H9
    obtain ⟨s9, c4⟩ := new_facts m4 hq
    clear hq
    have q4 : t4 ≠ p := (ne_of_none i8 m4).symm
    refine ⟨_, rfl, p, C, dx, _, rfl, s9 _ _ i8, R.cl, R.n4, (by show 4 < 1000; decide), ?_⟩
    generalize hq : upd H9 p _ = H10
    obtain ⟨i10, o10⟩ := upd_facts hq
    clear hq
    have k10 : Same H0 H10 := fun c o e => by rw [o10 _ (np e)]; exact s9 _ _ (k8 _ _ e)
    refine ⟨_, rfl, u, [], rfl, Or.inr ⟨U.sq _, ?_⟩⟩
    refine ⟨_, rfl, p, C, dx, _, rfl, i10, R.cl, R.n5, (by show 5 < 1000; decide), ?_⟩
    generalize hq : upd H10 p _ = H11
    obtain ⟨i11, o11⟩ := upd_facts hq
    clear hq
    refine kQ H11 t1 t2 t3 t4 (fun c o e => by rw [o11 _ (np e)]; exact k10 _ _ e) i11 ?_ ?_ ?_ ?_
    · rw [o11 _ q1, o10 _ q1]; exact s9 _ _ c1
    · rw [o11 _ q2, o10 _ q2]; exact s9 _ _ c2
    · rw [o11 _ q3, o10 _ q3]; exact s9 _ _ c3
    · rw [o11 _ q4, o10 _ q4]; exact c4
end
end My

namespace My
open PySem PySem.Spec PyProof.Rows L2
local macro_rules | `(tactic| walk_at "side") => `(tactic| first | (dsimp only; omega) | exact ⟨by omega, by omega⟩ | exact Or.inl ⟨by omega, by omega⟩ | exact Or.inr ⟨by omega, by omega⟩ | decide)
local macro_rules | `(tactic| walk_at "sq") => `(tactic| first | assumption | exact SqL.of (by assumption) | exact SqT.of (by assumption) | (refine L2.Same.seq (by assumption) ?_; walk_at "sq") | (refine L2.Same.seqT (by assumption) ?_; walk_at "sq") | exact Or.inl (by walk_at "sq") | exact Or.inr (by walk_at "sq"))
local macro_rules | `(tactic| walk_at "1") => `(tactic| first
  | refine ⟨_, rfl, iteT ?_⟩
  | refine ⟨_, rfl, iteF ?_⟩
  | refine ⟨_, rfl, ?_⟩
  | refine ⟨_, _, rfl, rfl, (by walk_at "side"), ?_⟩
  | refine ⟨_, _, rfl, rfl, ?_⟩
  | refine ⟨_, _, _, _, true, rfl, .ty _, .base (.int _), kit_ty (a := "int") (by decide +kernel), ?_⟩
  | refine ⟨_, _, _, _, false, rfl, .ty _, .base (.int _), kit_ty (a := "int") (by decide +kernel), ?_⟩
  | refine ⟨_, _, rfl, (by walk_at "sq"), ?_⟩
  | refine ⟨_, _, _, _, rfl, rfl, (by walk_at "sq"), (by first | rfl | assumption), ?_⟩
  | refine Or.inl ⟨_, _, _, _, rfl, rfl, (by walk_at "sq"), (by first | rfl | assumption), ?_⟩
  | refine Or.inr (Or.inl ⟨_, _, _, _, rfl, rfl, (by walk_at "sq"), (by first | rfl | assumption), ?_⟩)
  | refine ⟨_, _, rfl, Or.inl ⟨(by walk_at "sq"), ?_⟩⟩
  | refine ⟨rfl, ?_⟩
  | refine iteT ?_
  | refine iteF ?_
  | refine ⟨_, _, _, _, _, rfl, (by assumption), (by assumption), (by assumption), (by assumption), ?_⟩
  | refine Or.inl ⟨_, rfl, ?_⟩
  | refine Or.inr ⟨_, rfl, ?_⟩
  | refine ⟨_, _, rfl, (by walk_at "side"), ?_⟩
  | refine ⟨_, _, rfl, ?_⟩)
local macro_rules | `(tactic| walk_at "fld") => `(tactic| skip)
local macro_rules | `(tactic| walk_at "s") => `(tactic| repeat walk_at "1")
local macro_rules | `(tactic| walk_at "size") => `(tactic| first | exact Nat.le_of_ble_eq_true rfl | (simp only [List.length_map, List.length_append, List.length_cons, List.length_nil]; omega))
local macro_rules | `(tactic| walk_at "new") => `(tactic| (first | refine ⟨(by walk_at "size"), fun p hp => ?_⟩ | refine fun p hp => ?_); (generalize hq : upd _ p _ = H1); (obtain ⟨s, e⟩ := new_facts hp hq); clear hq)
/-- the class of houses lets its attributes be set -/
structure HouseCls (K : PySem.W.Frag) (C : Addr) : Prop where
  cl : Cls K C
  n0 : NoAttr K C "modules"
  n1 : NoAttr K C "_flats"
  n2 : NoAttr K C "_levels"
def spFirst0 : Sp := fun vs H Q _ => ∃ (L : Addr), vs = [.ref L] ∧ H L = some (.lst []) ∧ ∀ H', Same H H' → Q .non H'
/-- a house of no modules -/
def spInitH (C : Addr) : Sp := fun vs H Q _ => ∃ (H0 : Hp) (p dx L : Addr), vs = [.ref p, .ref L] ∧ H0 p = none ∧ Same H0 H ∧ H p = some (.ins C dx []) ∧ H0 L = some (.lst []) ∧ ∀ H' fs, Same H0 H' → H' p = some (.ins C dx fs) → Q .non H'
section
variable {P : Program} {w : World} {K : PySem.W.Frag} {mg : Str → Option Value} {base : Heap} {C : Addr}
abbrev s_first_wrong : Stmt := topS 46
theorem sc_first_wrong : FnScope ["modules", "ahead", "at", "module"] ["modules"] (defScope s_first_wrong) := ⟨rfl, rfl, rfl, by decide +kernel, rfl, by decide +kernel, by decide +kernel⟩
theorem ok_first_wrong (D : Df K mg "_first_wrong" s_first_wrong ["modules"]) (T : Txt mg) (o_is_sequence : Own P w K mg base "is_sequence" 1 ["value"] (spD isSeqD)) : Own P w K mg base "_first_wrong" 2 ["modules"] spFirst0 := by
  refine D.own sc_first_wrong (fun vs H Q E h => ?_) (fun f cdv A outer s H vs Q E hr h => ?_)
  · obtain ⟨_, rfl, _⟩ := h
    rfl
  · obtain ⟨L, rfl, eL, k⟩ := h
    refine ⟨_, (pss_cons (ps_if (pt_not (pt_val (pe_own o_is_sequence (hr.mono (by decide)) (pa_cons (pv 0) pa_nil))))
    (pss_one (ps_ret pe_int))
    pss_nil)
  (pss_cons (ps_set (i := 1) sc_first_wrong.nd rfl (Or.inl rfl) pe_dnewK)
  (pss_cons (ps_for PassesOwn.never rfl (pi_enum (by rfl) T.enumerate (pa_cons (pv 0) pa_nil)) (pg_tup (by rfl) (pgs_cons (pg_name (i := 2) sc_first_wrong.nd rfl (Or.inl rfl)) (pgs_cons (pg_name (i := 3) sc_first_wrong.nd rfl (Or.inl rfl)) pgs_nil)))
    pss_never)
  (pss_one (ps_ret pe_non))))), ?_⟩
    refine ⟨_, rfl, .ref L, .list [], rfl, .lst eL .nil (Nat.zero_le _), fun H1 s1 => ⟨_, rfl, ?_⟩⟩
    refine iteF ?_
    refine fun p np => ?_
    generalize hq : upd H1 p _ = H2
    obtain ⟨s2, e2⟩ := new_facts np hq
    clear hq
    have eL2 := s2 _ _ (s1 _ _ eL)
    refine ⟨_, rfl, L, [], rfl, SqL.of eL2, for_it (walk_enum (xs := [])) (fun i σ' H' => σ' = [some (.ref L), some (.ref p), none, none] ∧ H' = H2) ⟨rfl, rfl⟩ (fun i σ' H' _ q => by rw [q.2]; exact SqL.of eL2) (fun i x σ' H' H'' hi _ _ => absurd hi (Nat.not_lt_zero _)) ?_⟩
    rintro σ' H' ⟨rfl, rfl⟩
    exact k _ (s1.trans s2)
abbrev s_House_init : Stmt := inClass (topS 37) 0
theorem sc_House_init : FnScope ["self", "modules", "at", "flats", "levels", "module", "places", "links", "found"] ["self", "modules"] (defScope s_House_init) := ⟨rfl, rfl, rfl, by decide +kernel, rfl, by decide +kernel, by decide +kernel⟩
set_option maxHeartbeats 4000000 in
theorem ok_initH {f1 : Addr} {fd : FuncData} (F : Fun K "__init__" "House.__init__" s_House_init f1 fd) (R : HouseCls K C) (T : Txt mg) (o_first_wrong : Own P w K mg base "_first_wrong" 2 ["modules"] spFirst0) : FnOk P w K mg base CX0 3 f1 fd ["self", "modules"] (spInitH C) := by
  refine F.ok sc_House_init (fun vs H Q E h => ?_) (fun cdv A outer s H vs Q E hr h => ?_)
  · obtain ⟨_, _, _, _, rfl, _⟩ := h
    rfl
  · obtain ⟨H0, p, dx, L, rfl, np0, s0, hp, eL, k⟩ := h
    refine ⟨_, (pss_cons (ps_set (i := 2) sc_House_init.nd rfl (Or.inl rfl) (pe_own o_first_wrong (hr.mono (by decide)) (pa_cons (pv 1) pa_nil)))
  (pss_cons (ps_if (pt_cmpR op_notN (pv 2) pe_non (nomark _))
    (pss_one ps_never)
    pss_nil)
  (pss_cons (ps_set (i := 3) sc_House_init.nd rfl (Or.inl rfl) pe_dnewK)
  (pss_cons (ps_set (i := 4) sc_House_init.nd rfl (Or.inl rfl) pe_dnewK)
  (pss_cons (ps_for PassesOwn.never rfl (pi_list (pv 1)) (pg_name (i := 5) sc_House_init.nd rfl (Or.inl rfl))
    pss_never)
  (pss_cons (ps_fld (pv 0) (pe_callTy call_tupleN (by rfl) T.tuple (by decide +kernel) (pa_cons (pv 1) pa_nil)) rfl)
  (pss_cons (ps_fld (pv 0) (pv 3) rfl)
  (pss_one (ps_fld (pv 0) (pv 4) rfl))))))))), ?_⟩
    refine ⟨_, rfl, L, rfl, s0 _ _ eL, fun H1 s1 => ?_⟩
    refine ⟨_, rfl, rfl, _, rfl, ?_⟩
    refine iteF ?_
    refine fun q1 n1 => ?_
    generalize hq : upd H1 q1 _ = H2
    obtain ⟨s2, e2⟩ := new_facts n1 hq
    clear hq
    refine fun q2 n2 => ?_
    generalize hq : upd H2 q2 _ = H3
    obtain ⟨s3, e3⟩ := new_facts n2 hq
    clear hq
    have s13 := s1.trans (s2.trans s3)
    have eL3 := s13 _ _ (s0 _ _ eL)
    refine ⟨_, rfl, L, rfl, ⟨_, SqL.of eL3⟩, for_seq (seqIt_l (SqL.of eL3)) (fun i σ' H' => σ' = [some (.ref p), some (.ref L), some .non, some (.ref q1), some (.ref q2), none, none, none, none] ∧ H' = H3) ⟨rfl, rfl⟩ (fun i σ' H' q => by rw [q.2]; exact Same.refl _) (fun i x σ' H' hi _ => absurd hi (by simp)) ?_⟩
    rintro σ' H' ⟨rfl, e0⟩
    rw [e0]
    clear e0
    have hp3 := s13 _ _ hp
    refine ⟨_, rfl, L, [], rfl, Or.inl ⟨SqL.of eL3, fun t nt => ?_⟩⟩
    generalize hq : upd H3 t _ = H4
    obtain ⟨s4, e4⟩ := new_facts nt hq
    clear hq
    refine ⟨_, rfl, p, C, dx, _, rfl, s4 _ _ hp3, R.cl, R.n0, (by show 0 < 1000; decide), ?_⟩
    generalize hq : upd H4 p _ = H5
    obtain ⟨e5, o5⟩ := upd_facts hq
    clear hq
    refine ⟨_, rfl, _, rfl, p, C, dx, _, rfl, e5, R.cl, R.n1, (by show 1 < 1000; decide), ?_⟩
    generalize hq : upd H5 p _ = H6
    obtain ⟨e6, o6⟩ := upd_facts hq
    clear hq
    refine ⟨_, rfl, _, rfl, p, C, dx, _, rfl, e6, R.cl, R.n2, (by show 2 < 1000; decide), ?_⟩
    generalize hq : upd H6 p _ = H7
    obtain ⟨e7, o7⟩ := upd_facts hq
    clear hq
    refine k H7 _ (fun c o e => ?_) e7
    have nc : c ≠ p := ne_of_none e np0
    rw [o7 _ nc, o6 _ nc, o5 _ nc]
    exact s4 _ _ (s13 _ _ (s0 _ _ e))
end
end My

namespace My
open PySem PySem.Spec PyProof.Rows L2
local macro_rules | `(tactic| walk_at "side") => `(tactic| first | (dsimp only; omega) | exact ⟨by omega, by omega⟩ | exact Or.inl ⟨by omega, by omega⟩ | exact Or.inr ⟨by omega, by omega⟩ | decide)
local macro_rules | `(tactic| walk_at "sq") => `(tactic| first | assumption | exact SqL.of (by assumption) | exact SqT.of (by assumption) | (refine L2.Same.seq (by assumption) ?_; walk_at "sq") | (refine L2.Same.seqT (by assumption) ?_; walk_at "sq") | exact Or.inl (by walk_at "sq") | exact Or.inr (by walk_at "sq"))
local macro_rules | `(tactic| walk_at "1") => `(tactic| first
  | refine ⟨_, rfl, iteT ?_⟩
  | refine ⟨_, rfl, iteF ?_⟩
  | refine ⟨_, rfl, ?_⟩
  | refine ⟨_, _, rfl, rfl, (by walk_at "side"), ?_⟩
  | refine ⟨_, _, rfl, rfl, ?_⟩
  | refine ⟨_, _, _, _, true, rfl, .ty _, .base (.int _), kit_ty (a := "int") (by decide +kernel), ?_⟩
  | refine ⟨_, _, _, _, false, rfl, .ty _, .base (.int _), kit_ty (a := "int") (by decide +kernel), ?_⟩
  | refine ⟨_, _, rfl, (by walk_at "sq"), ?_⟩
  | refine ⟨_, _, _, _, rfl, rfl, (by walk_at "sq"), (by first | rfl | assumption), ?_⟩
  | refine Or.inl ⟨_, _, _, _, rfl, rfl, (by walk_at "sq"), (by first | rfl | assumption), ?_⟩
  | refine Or.inr (Or.inl ⟨_, _, _, _, rfl, rfl, (by walk_at "sq"), (by first | rfl | assumption), ?_⟩)
  | refine ⟨_, _, rfl, Or.inl ⟨(by walk_at "sq"), ?_⟩⟩
  | refine ⟨rfl, ?_⟩
  | refine iteT ?_
  | refine iteF ?_
  | refine ⟨_, _, _, _, _, rfl, (by assumption), (by assumption), (by assumption), (by assumption), ?_⟩
  | refine Or.inl ⟨_, rfl, ?_⟩
  | refine Or.inr ⟨_, rfl, ?_⟩
  | refine ⟨_, _, rfl, (by walk_at "side"), ?_⟩
  | refine ⟨_, _, rfl, ?_⟩)
local macro_rules | `(tactic| walk_at "fld") => `(tactic| skip)
local macro_rules | `(tactic| walk_at "s") => `(tactic| repeat walk_at "1")
local macro_rules | `(tactic| walk_at "size") => `(tactic| first | exact Nat.le_of_ble_eq_true rfl | (simp only [List.length_map, List.length_append, List.length_cons, List.length_nil]; omega))
local macro_rules | `(tactic| walk_at "new") => `(tactic| (first | refine ⟨(by walk_at "size"), fun p hp => ?_⟩ | refine fun p hp => ?_); (generalize hq : upd _ p _ = H1); (obtain ⟨s, e⟩ := new_facts hp hq); clear hq)
open TL
/-- str of a text or an int -/
def rStrSI : List V → Hp → VK → Prop := fun xs H Q => (∃ a, xs = [.str a] ∧ Q (.str a) H) ∨ ∃ i, xs = [.int i] ∧ i.natAbs.log2 < 1920 ∧ Q (.str (toString i)) H
theorem call_strSI {X : Cx} : CallR X (.type "str") rStrSI := by
  intro pins s σ H xs us Q I r h
  rcases h with h | h
  · exact SkE.call_str_str pins s σ H xs us Q I r h
  · exact call_str_int pins s σ H xs us Q I r h
def rJoin (K : PySem.W.Frag) : V → List V → Hp → VK → Prop := fun x xs H Q => ∃ a p, ∃ ys : List Str, x = .str a ∧ xs = [.ref p] ∧ (SqL K H p (ys.map V.str) ∨ SqT K H p (ys.map V.str)) ∧ (ys.map (·.length)).sum + ys.length * a.length ≤ 16777216 ∧ Q (.str (Txt.join a ys)) H
theorem mt_joinN {X : Cx} : MtR X "str.join" (rJoin X.K) := mt_join
def tUseA : TE := tOp rCatS (tOp rCatS (tOp rCatS (tC (.str "use ")) (tVar 4)) (tC (.str " "))) (tVar 5)
def tLinkA (K : PySem.W.Frag) : TE := tM1 (rJoin K) (tC (.str " ")) (tOp rCat (tLst (tCons (tC (.str "link")) tNil)) (tLc (iTup K (tVar 6)) (gName 7) tYes (tCB rStrSI (tCons (tVar 7) tNil)) [7]))
def spText9 : Sp := fun vs H Q _ => ∃ (v : V) (m : DM), vs = [v] ∧ ModF H v m ∧ DMFit m ∧ ∀ H', Same H H' → Q (.str (textM m)) H'
theorem row_fit {k : Str} {ws : List Str} (hk : k.length ≤ 100) (h : ws.length ≤ 100 ∧ ∀ x ∈ ws, x.length ≤ 100) : ((k :: ws).map (·.length)).sum + (k :: ws).length * (" " : Str).length ≤ 16777216 :=
  join_fit (fun y hy => by
    rcases List.mem_cons.mp hy with rfl | hy
    · omega
    · have := h.2 y hy
      omega) (by rw [List.length_cons]; have := h.1; omega) (by decide)
theorem strL_at {H : Hp} {a : Addr} {ss : List Str} (h : Dv H (.ref a) (strL ss)) : H a = some (.lst (ss.map V.str)) := h.strL.1
/-- "use " + a + " " + b -/
theorem rd_ause {σ : L2.St} {H : Hp} {a b : Str} {R : VK} (hi : σ[4]? = some (some (.str a))) (hj : σ[5]? = some (some (.str b))) (la : a.length ≤ 100) (lb : b.length ≤ 100) (k : R (.str (lnText (.use a b))) H) : tUseA σ H R := by
  have e1 : ("use " : Str).length = 4 := by decide
  have e2 : (" " : Str).length = 1 := by decide
  rw [← a_use] at k
  exact ⟨_, hi, _, _, rfl, rfl, big5 (by omega), _, _, rfl, rfl, big5 (by simp only [len_app]; omega), _, hj, _, _, rfl, rfl, big5 (by simp only [len_app]; omega), k⟩
/-- " ".join(["link"] + [str(part) for part in link]) -/
theorem rd_alink {K : PySem.W.Frag} {σ : L2.St} {H : Hp} {t : Addr} {c : Str × Str × Nat × Nat} {R : VK} (hi : σ[6]? = some (some (.ref t))) (qt : SqT K H t [.str c.1, .str c.2.1, .int c.2.2.1, .int c.2.2.2]) (hw : ∀ x, wipe ((wipe σ [7]).set 7 (some x)) [7] = wipe σ [7]) (h7 : ∀ x, ((wipe σ [7]).set 7 (some x))[7]? = some (some x))
    (fl : c.1.length ≤ 100 ∧ c.2.1.length ≤ 100 ∧ c.2.2.1 ≤ 99 ∧ c.2.2.2 ≤ 99) (k : ∀ H', Same H H' → R (.str (lnText (linkLn c))) H') : tLinkA K σ H R := by
  obtain ⟨ws, hws⟩ : ∃ ws : List Str, ws = [c.1, c.2.1, numS c.2.2.1, numS c.2.2.2] := ⟨_, rfl⟩
  have at_ : ∀ (i : Nat) (x : V), [V.str c.1, .str c.2.1, .int c.2.2.1, .int c.2.2.2][i]? = some x → ∃ s, ws[i]? = some s ∧ i < 4 ∧ ((x = .str s) ∨ ∃ n : Nat, x = .int n ∧ s = numS n ∧ n ≤ 99) := fun i x hx => by
    rw [hws]
    match i, hx with
    | 0, hx => cases hx; exact ⟨_, rfl, by decide, Or.inl rfl⟩
    | 1, hx => cases hx; exact ⟨_, rfl, by decide, Or.inl rfl⟩
    | 2, hx => cases hx; exact ⟨_, rfl, by decide, Or.inr ⟨_, rfl, rfl, fl.2.2.1⟩⟩
    | 3, hx => cases hx; exact ⟨_, rfl, by decide, Or.inr ⟨_, rfl, rfl, fl.2.2.2⟩⟩
    | _ + 4, hx => cases hx
  have lw : ws.length = 4 := by rw [hws]; rfl
  refine ⟨⟨_, rfl⟩, Nat.le_of_ble_eq_true rfl, fun u mu => ?_⟩
  generalize hq : upd H u _ = H1
  obtain ⟨s1, e1⟩ := new_facts mu hq
  clear hq
  have qt1 := s1.seqT qt
  refine ⟨_, hi, t, rfl, ⟨_, qt1⟩, fun D nD => lc_seq (seqIt_t qt1) (fun i H' => Same H1 H' ∧ H' D = some (.lst ((ws.take i).map V.str))) ⟨same_upd nD, upd_same⟩ (fun i H' q => q.1) ?_ ?_⟩
  · rintro i x H' hx ⟨s2, e2⟩
    obtain ⟨s, hs, hi4, hx⟩ := at_ i x hx
    have fin : ∃ acc, H' D = some (.lst acc) ∧ acc.length < sizeLine ∧ (Same H1 (upd H' D (.lst (acc ++ [V.str s]))) ∧ (upd H' D (.lst (acc ++ [V.str s]))) D = some (.lst ((ws.take (i + 1)).map V.str))) := by
      refine ⟨_, e2, ?_, s2.upd1 nD, ?_⟩
      · rw [List.length_map, List.length_take]
        exact Nat.lt_of_le_of_lt (show _ ≤ 100 by omega) (by decide)
      · rw [upd_same, List.take_add_one, hs, List.map_append]
        rfl
    refine ⟨hw _, _, h7 _, ?_⟩
    rcases hx with rfl | ⟨n, rfl, rfl, hn⟩
    · exact Or.inl ⟨_, rfl, fin⟩
    · exact Or.inr ⟨_, rfl, log99 hn, fin⟩
  · rintro H2 ⟨s2, e2⟩
    rw [show [V.str c.1, .str c.2.1, .int c.2.2.1, .int c.2.2.2].length = ws.length by rw [lw]; rfl, List.take_length] at e2
    refine ⟨u, D, _, _, rfl, rfl, s2 _ _ e1, e2, big5 (by simp only [List.length_map, List.length_cons, List.length_nil]; omega), fun q nq => ?_⟩
    generalize hq : upd H2 q _ = H3
    obtain ⟨s3, e3⟩ := new_facts nq hq
    clear hq
    refine ⟨_, q, "link" :: ws, rfl, rfl, Or.inl (SqL.of (by rw [e3]; rfl)), row_fit (by decide) ⟨by omega, fun x hx => ?_⟩, ?_⟩
    · rw [hws] at hx
      have h3 := numS_len fl.2.2.1
      have h4 := numS_len fl.2.2.2
      simp only [List.mem_cons, List.not_mem_nil, or_false] at hx
      rcases hx with rfl | rfl | rfl | rfl <;> omega
    · have := k H3 (s1.trans (s2.trans s3))
      rw [hws]
      exact this
section
variable {P : Program} {w : World} {K : PySem.W.Frag} {mg : Str → Option Value} {base : Heap}
abbrev s_law_text : Stmt := topS 59
theorem sc_law_text : FnScope ["module", "found", "word", "key", "label", "name", "link", "part"] ["module"] (defScope s_law_text) := ⟨rfl, rfl, rfl, by decide +kernel, rfl, by decide +kernel, by decide +kernel⟩
set_option maxHeartbeats 16000000 in
theorem ok_law_text (D : Df K mg "_law_text" s_law_text ["module"]) (T : Txt mg) : Own P w K mg base "_law_text" 1 ["module"] spText9 := by
  refine D.own sc_law_text (fun vs H Q E h => ?_) (fun f cdv A outer s H vs Q E hr h => ?_)
  · obtain ⟨_, _, rfl, _⟩ := h
    rfl
  · obtain ⟨v, m, rfl, ⟨d, kvs, a1, a2, a3, a4, a5, rfl, ed, w0, w1, w2, w3, w4, w5, g1, g2, g3, g4, g5⟩, F, k⟩ := h
    have hu := hu_of hr
    refine ⟨_, (pss_cons (ps_set (i := 1) sc_law_text.nd rfl (Or.inl rfl) (pe_lst (pa_cons (pe_op op_add_str pe_str (pe_dget hu (pv 0) pe_str (fun _ _ => rfl))) pa_nil)))
  (pss_cons (ps_for PassesOwn.never rfl (pi_tup (pe_tup (pa_cons (pe_tup (pa_cons pe_str (pa_cons pe_str pa_nil))) (pa_cons (pe_tup (pa_cons pe_str (pa_cons pe_str pa_nil))) (pa_cons (pe_tup (pa_cons pe_str (pa_cons pe_str pa_nil))) pa_nil))))) (pg_tup (by rfl) (pgs_cons (pg_name (i := 2) sc_law_text.nd rfl (Or.inl rfl)) (pgs_cons (pg_name (i := 3) sc_law_text.nd rfl (Or.inl rfl)) pgs_nil)))
    (pss_one (ps_set (i := 1) sc_law_text.nd rfl (Or.inl rfl) (pe_op op_cat (pv 1) (pe_ifExp (pt_cmpR (op_neN hr.units) (pe_dget hu (pv 0) (pv 3) (fun _ _ => rfl)) (pe_lst pa_nil) (nomark _)) (pe_lst (pa_cons (pe_m1 PySem.F.slot_str_join PySem.F.type_str_join mt_joinN pe_str (pe_op op_cat (pe_lst (pa_cons (pv 2) pa_nil)) (pe_dget hu (pv 0) (pv 3) (fun _ _ => rfl)))) pa_nil)) (pe_lst pa_nil))))))
  (pss_cons (ps_set (i := 1) sc_law_text.nd rfl (Or.inl rfl) (pe_op op_cat (pv 1) (pe_lc (own := [("label", 4), ("name", 5)]) (g := gTup K 2 (gCons (gName 4) (gCons (gName 5) gNil))) (te := tUseA) (tt := tYes) rfl sc_law_text.nd (pi_list (pe_dget hu (pv 0) pe_str (fun _ _ => rfl))) (blkOk_by (own := [("label", 4), ("name", 5)]) (N := ["module", "found", "word", "key", "label", "name", "link", "part"]) (sc := defScope s_law_text) (by decide +kernel)) (fun _ _ _ _ _ => (pg_tup (by rfl) (pgs_cons (pg_name (i := 4) sc_law_text.nd rfl (Or.inl rfl)) (pgs_cons (pg_name (i := 5) sc_law_text.nd rfl (Or.inl rfl)) pgs_nil)))) (fun _ _ _ _ _ => pts_nil) (fun _ _ _ _ _ => (pe_op op_add_str (pe_op op_add_str (pe_op op_add_str pe_str (pv 4)) pe_str) (pv 5))))))
  (pss_one (ps_ret (pe_m1 PySem.F.slot_str_join PySem.F.type_str_join mt_joinN pe_str (pe_op op_cat (pv 1) (pe_lc (own := [("link", 6)]) (g := gName 6) (te := tLinkA K) (tt := tYes) rfl sc_law_text.nd (pi_list (pe_dget hu (pv 0) pe_str (fun _ _ => rfl))) (blkOk_by (own := [("link", 6)]) (N := ["module", "found", "word", "key", "label", "name", "link", "part"]) (sc := defScope s_law_text) (by decide +kernel)) (fun _ _ _ _ _ => (pg_name (i := 6) sc_law_text.nd rfl (Or.inl rfl))) (fun _ _ _ _ _ => pts_nil) (fun _ _ _ _ _ => (pe_m1 PySem.F.slot_str_join PySem.F.type_str_join mt_joinN pe_str (pe_op op_cat (pe_lst (pa_cons pe_str pa_nil)) (pe_lc (own := [("part", 7)]) (g := gName 7) (tt := tYes) rfl sc_law_text.nd (pi_tup (pv 6)) (blkOk_by (own := [("part", 7)]) (N := ["module", "found", "word", "key", "label", "name", "link", "part"]) (sc := { kind := ScopeKind.function, names := [((".0" : Str), NameKind.local), (("link" : Str), NameKind.local)], isGenerator := false, isCoroutine := false }) (by decide +kernel)) (fun _ _ _ _ _ => (pg_name (i := 7) sc_law_text.nd rfl (Or.inl rfl))) (fun _ _ _ _ _ => pts_nil) (fun _ _ _ _ _ => (pe_callTy call_strSI (by rfl) T.str (by decide +kernel) (pa_cons (pv 7) pa_nil))))))))))))))), ?_⟩
    have fn := F.name
    have em : ("module " : Str).length = 7 := by decide
    have lL := lns_len F
    have eL1 := strL_at g1
    have eL2 := strL_at g2
    have eL3 := strL_at g3
    refine ⟨_, rfl, d, _, rfl, dget_s ed w0, _, _, rfl, rfl, big5 (by omega), ?_⟩
    refine ⟨Nat.le_of_ble_eq_true rfl, fun L nL => ?_⟩
    rw [a_mod]
    generalize hq : upd H L _ = H1
    obtain ⟨s1, eL⟩ := new_facts nL hq
    clear hq
    refine ⟨Nat.le_of_ble_eq_true rfl, fun p1 n1 => ?_⟩
    generalize hq : upd H1 p1 _ = H2
    obtain ⟨s2, c1⟩ := new_facts n1 hq
    clear hq
    refine ⟨Nat.le_of_ble_eq_true rfl, fun p2 n2 => ?_⟩
    generalize hq : upd H2 p2 _ = H3
    obtain ⟨s3, c2⟩ := new_facts n2 hq
    clear hq
    refine ⟨Nat.le_of_ble_eq_true rfl, fun p3 n3 => ?_⟩
    generalize hq : upd H3 p3 _ = H4
    obtain ⟨s4, c3⟩ := new_facts n3 hq
    clear hq
    refine ⟨Nat.le_of_ble_eq_true rfl, fun pt nt => ?_⟩
    generalize hq : upd H4 pt _ = H5
    obtain ⟨s5, ct⟩ := new_facts nt hq
    clear hq
    have s15 : Same H1 H5 := s2.trans (s3.trans (s4.trans s5))
    have sH5 := s1.trans s15
    have b1 := (s3.trans (s4.trans s5)) _ _ c1
    have b2 := (s4.trans s5) _ _ c2
    have b3 := s5 _ _ c3
    obtain ⟨rows, hrows⟩ : ∃ rows : List Ln, rows = [Ln.inl m.inl, Ln.out m.out, Ln.sta m.sta] := ⟨_, rfl⟩
    have at_ : ∀ (i : Nat) (x : V), [V.ref p1, V.ref p2, V.ref p3][i]? = some x → ∃ p key a l, x = .ref p ∧ H5 p = some (.tup [.str l.kind, .str key]) ∧ valV kvs (kS key) = some (.ref a) ∧ H5 a = some (.lst (l.ws.map V.str)) ∧ rows.drop i = l :: rows.drop (i + 1) ∧ (l.ws.length ≤ 100 ∧ ∀ x ∈ l.ws, x.length ≤ 100) ∧ l.kind.length ≤ 100 := fun i x hx => by
      rw [hrows]
      match i, hx with
      | 0, hx => cases hx; exact ⟨p1, "inlets", a1, Ln.inl m.inl, rfl, b1, w1, sH5 _ _ eL1, rfl, F.inl, (by show ("in" : Str).length ≤ 100; decide)⟩
      | 1, hx => cases hx; exact ⟨p2, "outlets", a2, Ln.out m.out, rfl, b2, w2, sH5 _ _ eL2, rfl, F.out, (by show ("out" : Str).length ≤ 100; decide)⟩
      | 2, hx => cases hx; exact ⟨p3, "stations", a3, Ln.sta m.sta, rfl, b3, w3, sH5 _ _ eL3, rfl, F.sta, (by show ("at" : Str).length ≤ 100; decide)⟩
      | _ + 3, hx => cases hx
    have efull : rows.flatMap rowLn = rowLn (.inl m.inl) ++ (rowLn (.out m.out) ++ rowLn (.sta m.sta)) := by
      rw [hrows]
      simp [List.flatMap_cons]
    refine ⟨pt, rfl, ⟨_, SqT.of ct⟩, for_seq (seqIt_t (SqT.of ct)) (fun i σ' H' => ∃ (L : Addr) (ls : List Ln) (y z : Option V), σ' = [some (.ref d), some (.ref L), y, z, none, none, none, none] ∧ Same H5 H' ∧ H' L = some (.lst ((Ln.mod m.name :: ls).map fun l => V.str (lnText l))) ∧
      ls ++ (rows.drop i).flatMap rowLn = rows.flatMap rowLn ∧ ls.length ≤ i) ⟨L, [], none, none, rfl, Same.refl _, s15 _ _ eL, rfl, Nat.le_refl _⟩ (fun i σ' H' q => by obtain ⟨_, _, _, _, _, a, _⟩ := q; exact a) ?_ ?_⟩
    · rintro i x σ' H' hx ⟨L, ls, y, z, rfl, s', eL', j5, a6⟩
      have hi : i < 3 := (List.getElem?_eq_some_iff.mp hx).1
      obtain ⟨p, key, a, l, rfl, gp, wk, ga, edr, fl, lk⟩ := at_ i x hx
      rw [edr, List.flatMap_cons] at j5
      have ed' := s' _ _ (sH5 _ _ ed)
      refine ⟨p, _, rfl, SqT.of (s' _ _ gp), rfl, _, _, rfl, _, _, rfl, rfl, ?_⟩
      refine ⟨_, rfl, _, rfl, _, rfl, d, _, rfl, dget_s ed' wk, Nat.zero_le _, fun e0 me0 => ?_⟩
      generalize hq : upd H' e0 _ = Ha
      obtain ⟨sa, ea⟩ := new_facts me0 hq
      clear hq
      have s'a := s'.trans sa
      refine ⟨a, e0, _, rfl, rfl, SqL.of (s'a _ _ ga), SqL.of ea, _, rfl, ?_⟩
      have ebz : (l.ws.map V.str).isEmpty = l.ws.isEmpty := by cases l.ws <;> rfl
      rw [ebz]
      by_cases hz : l.ws = []
      · rw [hz]
        refine iteF ?_
        refine ⟨Nat.zero_le _, fun q0 mq => ?_⟩
        generalize hq : upd Ha q0 _ = Hb
        obtain ⟨sb, eb⟩ := new_facts mq hq
        clear hq
        refine ⟨L, q0, _, _, rfl, rfl, sb _ _ (sa _ _ eL'), eb, big5 (by simp only [List.length_map, List.length_cons, List.length_nil]; omega), fun L2 mL2 => ?_⟩
        generalize hq : upd Hb L2 _ = Hc
        obtain ⟨sc, ec⟩ := new_facts mL2 hq
        clear hq
        rw [List.append_nil] at ec
        rw [show rowLn l = [] from if_pos hz, List.nil_append] at j5
        exact ⟨L2, ls, _, _, rfl, s'a.trans (sb.trans sc), ec, j5, by omega⟩
      · rw [show (!l.ws.isEmpty) = true by
          cases e : l.ws with
          | nil => exact absurd e hz
          | cons x r => rfl]
        refine iteT ?_
        refine ⟨⟨_, rfl⟩, _, rfl, Nat.le_of_ble_eq_true rfl, fun u mu => ?_⟩
        generalize hq : upd Ha u _ = Hb
        obtain ⟨sb, eb⟩ := new_facts mu hq
        clear hq
        have s'b := s'a.trans sb
        refine ⟨_, rfl, _, rfl, d, _, rfl, dget_s (sb _ _ (sa _ _ ed')) wk, u, a, _, _, rfl, rfl, eb, s'b _ _ ga, big5 (by simp only [List.length_map, List.length_cons, List.length_nil]; omega), fun u2 mu2 => ?_⟩
        generalize hq : upd Hb u2 _ = Hc
        obtain ⟨sc, ec⟩ := new_facts mu2 hq
        clear hq
        refine ⟨_, u2, l.kind :: l.ws, rfl, rfl, Or.inl (SqL.of (by rw [ec]; rfl)), row_fit lk fl, ?_⟩
        refine ⟨Nat.le_of_ble_eq_true rfl, fun q0 mq => ?_⟩
        generalize hq : upd Hc q0 _ = Hd
        obtain ⟨sd, edd⟩ := new_facts mq hq
        clear hq
        refine ⟨L, q0, _, _, rfl, rfl, sd _ _ (sc _ _ (sb _ _ (sa _ _ eL'))), edd, big5 (by simp only [List.length_map, List.length_cons, List.length_nil]; omega), fun L2 mL2 => ?_⟩
        generalize hq : upd Hd L2 _ = He
        obtain ⟨se, ee⟩ := new_facts mL2 hq
        clear hq
        rw [show rowLn l = [l] from if_neg hz] at j5
        refine ⟨L2, ls ++ [l], _, _, rfl, s'b.trans (sc.trans (sd.trans se)), ?_, ?_, by rw [List.length_append, List.length_singleton]; omega⟩
        · rw [ee, ← List.cons_append, List.map_append]
          rfl
        · rw [List.append_assoc]
          exact j5
    · rintro σ' H6 ⟨L, ls, y, z, rfl, s6, eL6, j5, a6⟩
      have els : ls = rowLn (.inl m.inl) ++ (rowLn (.out m.out) ++ rowLn (.sta m.sta)) := by
        rw [← efull, ← j5, hrows]
        simp
      have a6 : ls.length ≤ 3 := a6
      have sH6 := sH5.trans s6
      have f5 := F.calls
      have f4 := F.links
      -- calls
      have ed6 := sH6 _ _ ed
      obtain ⟨xs5, e5, d5⟩ : ∃ xs, H6 a5 = some (.lst xs) ∧ DvAll H6 xs (m.calls.map callD) := by
        cases g5.same sH6 with
        | lst e h _ => exact ⟨_, e, h⟩
      have ln5 := d5.len
      rw [List.length_map] at ln5
      refine ⟨_, rfl, _, rfl, d, _, rfl, dget_s ed6 w5, a5, rfl, ⟨_, SqL.of e5⟩, fun D nD => lc_seq (seqIt_l (SqL.of e5)) (fun i H' => Same H6 H' ∧ H' D = some (.lst ((m.calls.take i).map fun c => V.str (lnText (useLn c))))) ⟨same_upd nD, upd_same⟩ (fun i H' q => q.1) ?_ ?_⟩
      · rintro i x H' hx ⟨s7, e7⟩
        obtain ⟨dd, hd, hdx⟩ := d5.get hx
        rw [List.getElem?_map] at hd
        cases hc : m.calls[i]? with
        | none => rw [hc] at hd; cases hd
        | some c =>
          rw [hc] at hd
          obtain rfl := Option.some.inj (show some (callD c) = some dd from hd)
          obtain ⟨t, rfl, qt, _, _⟩ := (hdx.same s7).callD
          have fc := f5.2 c (List.mem_of_getElem? hc)
          have hi : i < m.calls.length := (List.getElem?_eq_some_iff.mp hc).1
          refine ⟨t, _, rfl, SqT.of qt, rfl, _, _, rfl, _, _, rfl, rfl, rfl, rd_ause rfl rfl fc.1 fc.2 ⟨_, e7, ?_, s7.upd1 nD, ?_⟩⟩
          · rw [List.length_map, List.length_take]
            exact Nat.lt_of_le_of_lt (show _ ≤ 100 by omega) (by decide)
          · rw [upd_same, List.take_add_one, hc, List.map_append]
            rfl
      · rintro H7 ⟨s7, e7⟩
        rw [ln5, List.take_length] at e7
        have sH7 := sH6.trans s7
        refine ⟨L, D, _, _, rfl, rfl, s7 _ _ eL6, e7, big5 (by simp only [List.length_map, List.length_cons, List.length_nil]; omega), fun L2 mL2 => ?_⟩
        generalize hq : upd H7 L2 _ = H8
        obtain ⟨s8, e8⟩ := new_facts mL2 hq
        clear hq
        have sH8 := sH7.trans s8
        obtain ⟨xs4, e4, d4⟩ : ∃ xs, H8 a4 = some (.lst xs) ∧ DvAll H8 xs (m.links.map linkD) := by
          cases g4.same sH8 with
          | lst e h _ => exact ⟨_, e, h⟩
        have ln4 := d4.len
        rw [List.length_map] at ln4
        refine ⟨⟨_, rfl⟩, _, rfl, _, rfl, d, _, rfl, dget_s (sH8 _ _ ed) w4, a4, rfl, ⟨_, SqL.of e4⟩, fun D4 nD4 => lc_seq (seqIt_l (SqL.of e4)) (fun i H' => Same H8 H' ∧ H' D4 = some (.lst ((m.links.take i).map fun c => V.str (lnText (linkLn c))))) ⟨same_upd nD4, upd_same⟩ (fun i H' q => q.1) ?_ ?_⟩
        · rintro i x H' hx ⟨s9, e9⟩
          obtain ⟨dd, hd, hdx⟩ := d4.get hx
          rw [List.getElem?_map] at hd
          cases hc : m.links[i]? with
          | none => rw [hc] at hd; cases hd
          | some c =>
            rw [hc] at hd
            obtain rfl := Option.some.inj (show some (linkD c) = some dd from hd)
            obtain ⟨t, rfl, qt⟩ := dp_link (K := K) ((hdx.same s9).dp)
            have fc := f4.2 c (List.mem_of_getElem? hc)
            have hi : i < m.links.length := (List.getElem?_eq_some_iff.mp hc).1
            refine ⟨rfl, rd_alink rfl qt (fun _ => rfl) (fun _ => rfl) fc fun H'' s'' => ⟨_, s'' _ _ e9, ?_, (s9.trans s'').upd1 nD4, ?_⟩⟩
            · rw [List.length_map, List.length_take]
              exact Nat.lt_of_le_of_lt (show _ ≤ 100 by omega) (by decide)
            · rw [upd_same, List.take_add_one, hc, List.map_append]
              rfl
        · rintro H9 ⟨s9, e9⟩
          rw [ln4, List.take_length] at e9
          have ecat : (Ln.mod m.name :: ls).map (fun l => V.str (lnText l)) ++ m.calls.map (fun c => V.str (lnText (useLn c))) ++ m.links.map (fun c => V.str (lnText (linkLn c))) = ((lnsM m).map lnText).map V.str := by
            rw [els]
            unfold lnsM
            rw [lnsOf_eq]
            simp only [rowLn, Ln.ws, List.map_cons, List.map_append, List.map_map, List.append_assoc, List.cons_append]
            rfl
          refine ⟨L2, D4, _, _, rfl, rfl, s9 _ _ e8, e9, ?_, fun u mu => ?_⟩
          · have := congrArg List.length ecat
            rw [List.length_append] at this
            rw [this, List.length_map, List.length_map]
            exact Nat.le_trans lL (by decide)
          · generalize hq : upd H9 u _ = H10
            obtain ⟨s10, e10⟩ := new_facts mu hq
            clear hq
            rw [ecat] at e10
            exact ⟨_, u, _, rfl, rfl, Or.inl (SqL.of e10), text_fit F, k H10 (sH8.trans (s9.trans s10))⟩
end
end My

namespace My
open PySem PySem.Spec PyProof.Rows L2
local macro_rules | `(tactic| walk_at "side") => `(tactic| first | (dsimp only; omega) | exact ⟨by omega, by omega⟩ | exact Or.inl ⟨by omega, by omega⟩ | exact Or.inr ⟨by omega, by omega⟩ | decide)
local macro_rules | `(tactic| walk_at "sq") => `(tactic| first | assumption | exact SqL.of (by assumption) | exact SqT.of (by assumption) | (refine L2.Same.seq (by assumption) ?_; walk_at "sq") | (refine L2.Same.seqT (by assumption) ?_; walk_at "sq") | exact Or.inl (by walk_at "sq") | exact Or.inr (by walk_at "sq"))
local macro_rules | `(tactic| walk_at "1") => `(tactic| first
  | refine ⟨_, rfl, iteT ?_⟩
  | refine ⟨_, rfl, iteF ?_⟩
  | refine ⟨_, rfl, ?_⟩
  | refine ⟨_, _, rfl, rfl, (by walk_at "side"), ?_⟩
  | refine ⟨_, _, rfl, rfl, ?_⟩
  | refine ⟨_, _, _, _, true, rfl, .ty _, .base (.int _), kit_ty (a := "int") (by decide +kernel), ?_⟩
  | refine ⟨_, _, _, _, false, rfl, .ty _, .base (.int _), kit_ty (a := "int") (by decide +kernel), ?_⟩
  | refine ⟨_, _, rfl, (by walk_at "sq"), ?_⟩
  | refine ⟨_, _, _, _, rfl, rfl, (by walk_at "sq"), (by first | rfl | assumption), ?_⟩
  | refine Or.inl ⟨_, _, _, _, rfl, rfl, (by walk_at "sq"), (by first | rfl | assumption), ?_⟩
  | refine Or.inr (Or.inl ⟨_, _, _, _, rfl, rfl, (by walk_at "sq"), (by first | rfl | assumption), ?_⟩)
  | refine ⟨_, _, rfl, Or.inl ⟨(by walk_at "sq"), ?_⟩⟩
  | refine ⟨rfl, ?_⟩
  | refine iteT ?_
  | refine iteF ?_
  | refine ⟨_, _, _, _, _, rfl, (by assumption), (by assumption), (by assumption), (by assumption), ?_⟩
  | refine Or.inl ⟨_, rfl, ?_⟩
  | refine Or.inr ⟨_, rfl, ?_⟩
  | refine ⟨_, _, rfl, (by walk_at "side"), ?_⟩
  | refine ⟨_, _, rfl, ?_⟩)
local macro_rules | `(tactic| walk_at "fld") => `(tactic| skip)
local macro_rules | `(tactic| walk_at "s") => `(tactic| repeat walk_at "1")
local macro_rules | `(tactic| walk_at "size") => `(tactic| first | exact Nat.le_of_ble_eq_true rfl | (simp only [List.length_map, List.length_append, List.length_cons, List.length_nil]; omega))
local macro_rules | `(tactic| walk_at "new") => `(tactic| (first | refine ⟨(by walk_at "size"), fun p hp => ?_⟩ | refine fun p hp => ?_); (generalize hq : upd _ p _ = H1); (obtain ⟨s, e⟩ := new_facts hp hq); clear hq)
def shapeD (m : DM) : PyData := .tuple [.str m.name, tupS m.inl, tupS m.out, tupS m.sta, linksT m.links, callsT m.calls]
/-- a def that keeps a promise where no repr is under way -/
structure OwnG (P : Program) (w : World) (K : PySem.W.Frag) (mg : Str → Option Value) (base : Heap) (x : Str) (k : Nat) (ps : List Str) (sp : Sp) : Prop where
  ex : ∃ f fd, MyG.FnG P w K mg base k f fd ps sp ∧ mg x = some (.ref f) ∧ PySem.W.keepIn K (.ref f) = true ∧ Binds K fd ps []
theorem Df.ownG {P : Program} {w : World} {K : PySem.W.Frag} {mg : Str → Option Value} {base : Heap} {x : Str} {st : Stmt} {ps N : List Str} {k : Nat} {sp : Sp} (D : Df K mg x st ps) (S : FnScope N ps (defScope st)) (len : ∀ vs H Q E, sp vs H Q E → vs.length = ps.length)
    (go : ∀ (f : Addr) (cdv : Value) (A : Around) (outer : List Env) (s : Shared) (H : Hp) (vs : List V) (Q : VK) (E : XK), Room k (A.deeper (envOfC x (defScope st) s.heap.objs.size f cdv)) → (A.deeper (envOfC x (defScope st) s.heap.objs.size f cdv)).guards = some [] →
      sp vs H Q E → ∃ t, PSs (cxOf CX0 P w K mg base N x (defScope st) f cdv A outer s H E).nox (defBody st) t ∧ t { nx := fun _ H' => Q .non H', rt := Q } (start N vs) H) : OwnG P w K mg base x (k + 1) ps sp := by
  obtain ⟨f, fd, F, m, b⟩ := D.ex
  exact ⟨f, fd, MyG.okG F S len (go f), m, F.kp, b⟩
theorem pe_ownG {X : Cx} {x : Str} {p pos : Pos} {e : Expr} {es : List Expr} {t : TA} {k : Nat} {ps : List Str} {sp : Sp} (O : OwnG X.prog X.w X.K X.mg X.base x k ps sp) (gd : X.A.guards = some []) (hr : Room k X.A) (ha : PA X (e :: es) t) (hg : Gl X x := by exact rfl) (hdb : (x == ("__debug__" : Str)) = false := by decide)
    (he : starEach (e :: es) X.env = (false, eval e X.env) :: starEach es X.env := by rfl) (hpl : (backTo pos (starEach es X.env)).any (·.1) = false := by rfl) : PE X (.Call (.Name x p) (e :: es) [] pos) (tCall sp [] E0 t) := by
  obtain ⟨f, fd, F, hm, hk, hb⟩ := O.ex
  refine ⟨fun pins s σ H Q I h => ?_⟩
  refine wpAny_Call_Name_kw (ld_glob I hg hm ?_ hdb)
  refine PySem.W.callWith_K (h₀ := X.base) I.ok.mod.kin hk (thn (ha.run pos pins s σ H _ I h) fun us s1 ⟨vs, H1, I1, r, q⟩ => ⟨I1.kIn, ?_⟩) he hpl
  have r2 : Vals (vs ++ []) (us ++ []) := r.append .nil
  have hl : (us ++ []).length = ps.length := by rw [← r2.length]; exact F.len _ _ _ _ q
  refine wpAny_call (codeAny_mono (F.run X.A X.stack s1 H1 ⟨us, []⟩ (us ++ []) (vs ++ []) _ E0 hr gd I1.env0 (hb s1 us I1.kIn hl) r2 q) fun r s' hq => ?_)
  cases r with
  | error e => exact pass0 pins σ H1 s1 e s' I1 hq
  | ok fl =>
    cases fl with
    | ret u => exact I1.after hq
    | next => exact False.elim hq
    | brk => exact False.elim hq
    | cont => exact False.elim hq
/-! ## what is shown of a module -/
theorem okS_leaf {x : Str} (h : okS x = true) : (PyData.str x).leavesShort 13 = true := by
  have h1 := (Bool.and_eq_true_iff.mp h).1
  rw [← Array.all_toList, List.all_eq_true] at h1
  show (x.cps.toList.all fun c => decide (c < 16 ^ 8)) = true
  refine List.all_eq_true.mpr fun c hc => decide_eq_true ?_
  have := of_decide_eq_true (h1 c hc)
  exact Nat.lt_trans this (by decide)
theorem leaf_all {α : Type} (f : α → PyData) : ∀ xs : List α, (∀ x ∈ xs, (f x).leavesShort 13 = true) → PyData.leavesShortAll 13 (xs.map f) = true
  | [], _ => rfl
  | x :: xs, h => by
    show ((f x).leavesShort 13 && PyData.leavesShortAll 13 (xs.map f)) = true
    rw [h x (.head _), leaf_all f xs fun y hy => h y (.tail _ hy)]
    rfl
theorem show_all {α : Type} (f : α → PyData) : ∀ xs : List α, (∀ x ∈ xs, (f x).showable = true) → PyData.showableAll (xs.map f) = true
  | [], _ => rfl
  | x :: xs, h => by
    show ((f x).showable && PyData.showableAll (xs.map f)) = true
    rw [h x (.head _), show_all f xs fun y hy => h y (.tail _ hy)]
    rfl
theorem weight_all {α : Type} (f : α → PyData) (n : Nat) : ∀ xs : List α, (∀ x ∈ xs, (f x).weight ≤ n) → PyData.weightAll (xs.map f) ≤ (n + 1) * xs.length
  | [], _ => by simp [PyData.weightAll]
  | x :: xs, h => by
    have h1 := h x (.head _)
    have h2 := weight_all f n xs fun y hy => h y (.tail _ hy)
    simp only [List.map_cons, PyData.weightAll, List.length_cons, Nat.mul_succ]
    omega
theorem int_show {n : Nat} (h : n ≤ 99) : (PyData.int (n : Nat)).showable = true := decide_eq_true (log99 h)
theorem int_leaf {n : Nat} (h : n ≤ 99) : (PyData.int (n : Nat)).leavesShort 13 = true := decide_eq_true (PyData.shown_int_le (by rw [Int.natAbs_natCast]; exact Nat.lt_of_le_of_lt h (by decide)))
theorem int_weight {n : Nat} (h : n ≤ 99) : (PyData.int (n : Nat)).weight ≤ 8 := by
  simp only [PyData.weight]
  split
  · omega
  · rw [Int.natAbs_natCast]
    have : n.log2 < 7 := by
      by_cases z : n = 0
      · subst z
        decide
      · exact (Nat.log2_lt z).mpr (by omega)
    omega
theorem str_weight (x : Str) : (PyData.str x).weight = x.length := rfl
structure Shows (d : PyData) : Prop where
  sh : d.showable = true
  nd : d.hasDict = false
  dp : d.depth ≤ 30
  fit : d.shown.length ≤ sizeLine
theorem shape_shows {m : DM} (F : DMFit m) (C : DMCan m) (on : okS m.name = true) : Shows (shapeD m) := by
  have wS : ∀ {ss : List Str}, (ss.length ≤ 100 ∧ ∀ x ∈ ss, x.length ≤ 100) → (tupS ss).weight ≤ 10100 := fun {ss} h => by
    have := weight_all PyData.str 100 ss fun x hx => by rw [str_weight]; exact h.2 x hx
    show PyData.weightAll (ss.map PyData.str) ≤ _
    have := h.1
    omega
  have wL : (linksT m.links).weight ≤ 23000 := by
    have h1 := weight_all linkD 220 m.links fun l hl => by
      obtain ⟨h1, h2, h3, h4⟩ := F.links.2 l hl
      have i3 := int_weight h3
      have i4 := int_weight h4
      have e : (linkD l).weight = (PyData.str l.1).weight + 1 + ((PyData.str l.2.1).weight + 1 + ((PyData.int (l.2.2.1 : Nat)).weight + 1 + ((PyData.int (l.2.2.2 : Nat)).weight + 1 + 0))) := by simp [linkD, PyData.weight, PyData.weightAll]
      rw [e, str_weight, str_weight]
      omega
    show PyData.weightAll (m.links.map linkD) ≤ _
    have := F.links.1
    omega
  have wC : (callsT m.calls).weight ≤ 21000 := by
    have h1 := weight_all callD 202 m.calls fun l hl => by
      obtain ⟨h1, h2⟩ := F.calls.2 l hl
      have e : (callD l).weight = (PyData.str l.1).weight + 1 + ((PyData.str l.2).weight + 1 + 0) := by simp [callD, PyData.weight, PyData.weightAll]
      rw [e, str_weight, str_weight]
      omega
    show PyData.weightAll (m.calls.map callD) ≤ _
    have := F.calls.1
    omega
  have w1 := wS F.inl
  have w2 := wS F.out
  have w3 := wS F.sta
  have wN := F.name
  have ew : (shapeD m).weight = (PyData.str m.name).weight + 1 + ((tupS m.inl).weight + 1 + ((tupS m.out).weight + 1 + ((tupS m.sta).weight + 1 + ((linksT m.links).weight + 1 + ((callsT m.calls).weight + 1 + 0))))) := by simp [shapeD, PyData.weight, PyData.weightAll]
  have lS : ∀ {ss : List Str}, (∀ x ∈ ss, okS x = true) → (tupS ss).leavesShort 13 = true := fun {ss} h => leaf_all PyData.str ss fun x hx => okS_leaf (h x hx)
  have lL : (linksT m.links).leavesShort 13 = true := leaf_all linkD m.links fun l hl => by
    obtain ⟨h1, h2⟩ := C.links l hl
    obtain ⟨_, _, h3, h4⟩ := F.links.2 l hl
    show ((PyData.str l.1).leavesShort 13 && ((PyData.str l.2.1).leavesShort 13 && ((PyData.int (l.2.2.1 : Nat)).leavesShort 13 && ((PyData.int (l.2.2.2 : Nat)).leavesShort 13 && true)))) = true
    rw [okS_leaf h1, okS_leaf h2, int_leaf h3, int_leaf h4]
    rfl
  have lC : (callsT m.calls).leavesShort 13 = true := leaf_all callD m.calls fun l hl => by
    obtain ⟨h1, h2⟩ := C.calls l hl
    show ((PyData.str l.1).leavesShort 13 && ((PyData.str l.2).leavesShort 13 && true)) = true
    rw [okS_leaf h1, okS_leaf h2]
    rfl
  have leaf : (shapeD m).leavesShort 13 = true := by
    show ((PyData.str m.name).leavesShort 13 && ((tupS m.inl).leavesShort 13 && ((tupS m.out).leavesShort 13 && ((tupS m.sta).leavesShort 13 && ((linksT m.links).leavesShort 13 && ((callsT m.calls).leavesShort 13 && true)))))) = true
    rw [okS_leaf on, lS C.inl, lS C.out, lS C.sta, lL, lC]
    rfl
  have s0 : ∀ ss : List Str, (tupS ss).showable = true := fun ss => show_all PyData.str ss fun _ _ => rfl
  have canN := okS_lay on
  have cS : ∀ {ss : List Str}, (∀ x ∈ ss, okS x = true) → (tupS ss).canLay0 = true := fun {ss} h => layAll_map _ ss fun x hx => okS_lay (h x hx)
  have can : (shapeD m).canLay0 = true := by
    show ((PyData.str m.name).canLay0 && ((tupS m.inl).canLay0 && ((tupS m.out).canLay0 && ((tupS m.sta).canLay0 && ((linksT m.links).canLay0 && ((callsT m.calls).canLay0 && true)))))) = true
    rw [canN, cS C.inl, cS C.out, cS C.sta, SeqAt.canLay_of_shaped (shaped_links C.links), SeqAt.canLay_of_shaped (shaped_calls C.calls)]
    rfl
  refine ⟨?_, PyData.hasDict_of_canLay _ can, ?_, ?_⟩
  · show ((PyData.str m.name).showable && ((tupS m.inl).showable && ((tupS m.out).showable && ((tupS m.sta).showable && ((linksT m.links).showable && ((callsT m.calls).showable && true)))))) = true
    rw [s0, s0, s0, show (linksT m.links).showable = true from show_all linkD m.links fun l hl => by
      obtain ⟨_, _, h3, h4⟩ := F.links.2 l hl
      show (true && (true && ((PyData.int (l.2.2.1 : Nat)).showable && ((PyData.int (l.2.2.2 : Nat)).showable && true)))) = true
      rw [int_show h3, int_show h4]
      rfl, show (callsT m.calls).showable = true from show_all callD m.calls fun _ _ => rfl]
    rfl
  · have d1 : ∀ ss : List Str, (tupS ss).depth ≤ 5 := fun ss => by
      have := depthAll_map PyData.str 1 ss fun x _ => by simp [PyData.depth]
      simp only [tupS, PyData.depth]
      omega
    have d2 : (linksT m.links).depth ≤ 8 := by
      have := depthAll_map linkD 5 m.links fun x _ => by simp [linkD, PyData.depth, PyData.depthAll]
      simp only [linksT, PyData.depth]
      omega
    have d3 : (callsT m.calls).depth ≤ 8 := by
      have := depthAll_map callD 5 m.calls fun x _ => by simp [callD, PyData.depth, PyData.depthAll]
      simp only [callsT, PyData.depth]
      omega
    have i1 := d1 m.inl
    have i2 := d1 m.out
    have i3 := d1 m.sta
    have i0 : (PyData.str m.name).depth ≤ 1 := by simp [PyData.depth]
    simp only [shapeD, PyData.depth, PyData.depthAll] at *
    omega
  · have := PyData.shown_le 13 (by decide) (shapeD m) leaf
    rw [ew, str_weight] at this
    exact Nat.le_trans (show _ ≤ 1500000 by omega) (by decide)
def spShape (K : PySem.W.Frag) (C : Addr) : Sp := fun vs H Q _ => ∃ (p : Addr) (m : DM), vs = [.ref p] ∧ MoAt K C H p m ∧ Shows (shapeD m) ∧ ∀ H', Same H H' → Q (.str (shapeD m).shown) H'
section
variable {P : Program} {w : World} {K : PySem.W.Frag} {mg : Str → Option Value} {base : Heap} {C : Addr}
abbrev s_law_shape : Stmt := topS 60
theorem sc_law_shape : FnScope ["made"] ["made"] (defScope s_law_shape) := ⟨rfl, rfl, rfl, by decide +kernel, rfl, by decide +kernel, by decide +kernel⟩
theorem ok_law_shape (D : Df K mg "_law_shape" s_law_shape ["made"]) (T : Txt mg) (R : ModCls K C) : OwnG P w K mg base "_law_shape" 1 ["made"] (spShape K C) := by
  refine D.ownG sc_law_shape (fun vs H Q E h => ?_) (fun f cdv A outer s H vs Q E hr gd h => ?_)
  · obtain ⟨_, _, rfl, _⟩ := h
    rfl
  · obtain ⟨p, m, rfl, ⟨dx, t1, t2, t3, t4, t5, h0, h1, h2, h3, h4, h5⟩, sw, k⟩ := h
    refine ⟨_, (pss_one (ps_ret (pe_callB (MyG.call_reprD gd hr.units) (by rfl) T.repr (by decide +kernel) (pa_cons (pe_tup (pa_cons (pe_fld (pv 0) rfl) (pa_cons (pe_fld (pv 0) rfl) (pa_cons (pe_fld (pv 0) rfl) (pa_cons (pe_fld (pv 0) rfl) (pa_cons (pe_fld (pv 0) rfl) (pa_cons (pe_fld (pv 0) rfl) pa_nil))))))) pa_nil)))), ?_⟩
    obtain ⟨l0, l1, l2, l3, l4, l5⟩ := lk_mod (.str m.name) t1 t2 t3 t4 t5
    refine ⟨_, rfl, p, C, dx, _, _, rfl, h0, R.cl, R.n0, l0, _, rfl, p, C, dx, _, _, rfl, h0, R.cl, R.n1, l1, _, rfl, p, C, dx, _, _, rfl, h0, R.cl, R.n2, l2, _, rfl, p, C, dx, _, _, rfl, h0, R.cl, R.n3, l3, _, rfl, p, C, dx, _, _, rfl, h0, R.cl, R.n4, l4, _, rfl, p, C, dx, _, _, rfl, h0, R.cl, R.n5, l5, ?_⟩
    refine ⟨Nat.le_of_ble_eq_true rfl, fun q nq => ?_⟩
    generalize hq : upd H q _ = H1
    obtain ⟨s1, e1⟩ := new_facts nq hq
    clear hq
    exact ⟨q, shapeD m, rfl, .tup (SqT.of e1) (.cons (.str _) (.cons (Dp.sameD s1 h1) (.cons (Dp.sameD s1 h2) (.cons (Dp.sameD s1 h3) (.cons (Dp.sameD s1 h4) (.cons (Dp.sameD s1 h5) .nil)))))), sw.sh, sw.nd, sw.dp, sw.fit, k H1 s1⟩
end
end My

namespace My
open PySem PySem.Spec PyProof.Rows L2
local macro_rules | `(tactic| walk_at "side") => `(tactic| first | (dsimp only; omega) | exact ⟨by omega, by omega⟩ | exact Or.inl ⟨by omega, by omega⟩ | exact Or.inr ⟨by omega, by omega⟩ | decide)
local macro_rules | `(tactic| walk_at "sq") => `(tactic| first | assumption | exact SqL.of (by assumption) | exact SqT.of (by assumption) | (refine L2.Same.seq (by assumption) ?_; walk_at "sq") | (refine L2.Same.seqT (by assumption) ?_; walk_at "sq") | exact Or.inl (by walk_at "sq") | exact Or.inr (by walk_at "sq"))
local macro_rules | `(tactic| walk_at "1") => `(tactic| first
  | refine ⟨_, rfl, iteT ?_⟩
  | refine ⟨_, rfl, iteF ?_⟩
  | refine ⟨_, rfl, ?_⟩
  | refine ⟨_, _, rfl, rfl, (by walk_at "side"), ?_⟩
  | refine ⟨_, _, rfl, rfl, ?_⟩
  | refine ⟨_, _, _, _, true, rfl, .ty _, .base (.int _), kit_ty (a := "int") (by decide +kernel), ?_⟩
  | refine ⟨_, _, _, _, false, rfl, .ty _, .base (.int _), kit_ty (a := "int") (by decide +kernel), ?_⟩
  | refine ⟨_, _, rfl, (by walk_at "sq"), ?_⟩
  | refine ⟨_, _, _, _, rfl, rfl, (by walk_at "sq"), (by first | rfl | assumption), ?_⟩
  | refine Or.inl ⟨_, _, _, _, rfl, rfl, (by walk_at "sq"), (by first | rfl | assumption), ?_⟩
  | refine Or.inr (Or.inl ⟨_, _, _, _, rfl, rfl, (by walk_at "sq"), (by first | rfl | assumption), ?_⟩)
  | refine ⟨_, _, rfl, Or.inl ⟨(by walk_at "sq"), ?_⟩⟩
  | refine ⟨rfl, ?_⟩
  | refine iteT ?_
  | refine iteF ?_
  | refine ⟨_, _, _, _, _, rfl, (by assumption), (by assumption), (by assumption), (by assumption), ?_⟩
  | refine Or.inl ⟨_, rfl, ?_⟩
  | refine Or.inr ⟨_, rfl, ?_⟩
  | refine ⟨_, _, rfl, (by walk_at "side"), ?_⟩
  | refine ⟨_, _, rfl, ?_⟩)
local macro_rules | `(tactic| walk_at "fld") => `(tactic| skip)
local macro_rules | `(tactic| walk_at "s") => `(tactic| repeat walk_at "1")
local macro_rules | `(tactic| walk_at "size") => `(tactic| first | exact Nat.le_of_ble_eq_true rfl | (simp only [List.length_map, List.length_append, List.length_cons, List.length_nil]; omega))
local macro_rules | `(tactic| walk_at "new") => `(tactic| (first | refine ⟨(by walk_at "size"), fun p hp => ?_⟩ | refine fun p hp => ?_); (generalize hq : upd _ p _ = H1); (obtain ⟨s, e⟩ := new_facts hp hq); clear hq)
/-- a module that is made -/
structure RightDM (m : DM) : Prop where
  name : nameS m.name = true
  nd : (namesOf m).Nodup
  nms : ∀ x ∈ namesOf m, nameS x = true
  calls : ∀ c ∈ m.calls, nameS c.2 = true
  links : ∀ l ∈ m.links, (isEndS l.1 (m.inl ++ m.sta) (m.calls.map (·.1)) = true ∧ isEndS l.2.1 (m.sta ++ m.out) (m.calls.map (·.1)) = true) ∧ okS l.1 = true ∧ okS l.2.1 = true
theorem RightDM.parts {m : DM} (R : RightDM m) : m.inl.Nodup ∧ m.out.Nodup ∧ m.sta.Nodup ∧ (m.calls.map (·.1)).Nodup ∧ (∀ x ∈ m.out, x ∉ m.inl) ∧ (∀ x ∈ m.sta, x ∉ m.inl ∧ x ∉ m.out) ∧ (∀ x ∈ m.calls.map (·.1), x ∉ m.inl ∧ x ∉ m.out ∧ x ∉ m.sta) := by
  have h := R.nd
  unfold namesOf at h
  obtain ⟨h1, h2, h3⟩ := List.nodup_append.mp h
  obtain ⟨h4, h5, h6⟩ := List.nodup_append.mp h2
  obtain ⟨h7, h8, h9⟩ := List.nodup_append.mp h5
  refine ⟨h1, h4, h7, h8, fun x hx q => h3 x q x (List.mem_append_left _ hx) rfl, fun x hx => ⟨fun q => h3 x q x (List.mem_append_right _ (List.mem_append_left _ hx)) rfl, fun q => h6 x q x (List.mem_append_left _ hx) rfl⟩,
    fun x hx => ⟨fun q => h3 x q x (List.mem_append_right _ (List.mem_append_right _ hx)) rfl, fun q => h6 x q x (List.mem_append_right _ hx) rfl, fun q => h9 x q x hx rfl⟩⟩
theorem RightDM.facts {m : DM} (R : RightDM m) : NameFacts m := by
  obtain ⟨n1, n2, n3, _, d1, d2, _⟩ := R.parts
  exact ⟨R.name, free_yes (fun x hx => R.nms x (in_inl hx)) n1 (fun x _ q => nomatch q), free_yes (fun x hx => R.nms x (in_out hx)) n2 d1,
    free_yes (fun x hx => R.nms x (in_sta hx)) n3 fun x hx q => by
      rcases List.mem_append.mp q with q | q
      · exact (d2 x hx).1 q
      · exact (d2 x hx).2 q⟩
theorem RightDM.can {m : DM} (R : RightDM m) : DMCan m :=
  ⟨fun x hx => okS_name (R.nms x (in_inl hx)), fun x hx => okS_name (R.nms x (in_out hx)), fun x hx => okS_name (R.nms x (in_sta hx)), fun l hl => (R.links l hl).2, fun c hc => ⟨okS_name (R.nms _ (in_lab hc)), okS_name (R.calls c hc)⟩⟩
theorem RightDM.good {m : DM} (R : RightDM m) : GoodDM m := by
  refine ⟨?_, R.can⟩
  obtain ⟨_, _, _, n4, _, _, d4⟩ := R.parts
  show wordM (.str m.name) (strL m.inl) (strL m.out) (strL m.sta) (.list (m.links.map linkD)) (.list (m.calls.map callD)) = none
  rw [word_names R.facts, lbl_calls]
  have h1 : ((m.links.map linkD).all (isRightD (m.inl ++ m.sta) (m.sta ++ m.out) (m.calls.map (·.1)))) = true := by
    rw [List.all_map]
    refine List.all_eq_true.mpr fun l hl => ?_
    show isRightD _ _ _ (linkD l) = true
    rw [right_link, ((R.links l hl).1).1, ((R.links l hl).1).2]
    rfl
  have h2 : (m.calls.map callD).all isCallD = true := by
    rw [List.all_map]
    refine List.all_eq_true.mpr fun c hc => ?_
    show (nameS c.1 && nameS c.2) = true
    rw [R.nms _ (in_lab hc), R.calls c hc]
    rfl
  have h3 : areFree ((m.calls.map (·.1)).map PyData.str) (m.inl ++ (m.out ++ m.sta)) = true := free_yes (fun x hx => by
    obtain ⟨c, hc, rfl⟩ := List.mem_map.mp hx
    exact R.nms _ (in_lab hc)) n4 fun x hx q => by
      obtain ⟨q1, q2, q3⟩ := d4 x hx
      rcases List.mem_append.mp q with q | q
      · exact q1 q
      · rcases List.mem_append.mp q with q | q
        · exact q2 q
        · exact q3 q
  rw [if_pos (show (isSeqD (.list (m.links.map linkD)) && (itemsD (.list (m.links.map linkD))).all (isRightD (m.inl ++ m.sta) (m.sta ++ m.out) (m.calls.map (·.1)))) = true from h1),
    if_pos (show (isSeqD (.list (m.calls.map callD)) && ((itemsD (.list (m.calls.map callD))).all isCallD && areFree ((m.calls.map (·.1)).map PyData.str) (m.inl ++ (m.out ++ m.sta)))) = true by
      show ((m.calls.map callD).all isCallD && _) = true
      rw [h2, h3]
      rfl)]
theorem end_mono {x : Str} {ns ns' ls ls' : List Str} (h : isEndS x ns ls = true) (hn : ∀ y ∈ ns, y ∈ ns') (hl : ∀ y ∈ ls, y ∈ ls') : isEndS x ns' ls' = true := by
  unfold isEndS at h ⊢
  rw [Bool.or_eq_true, decide_eq_true_eq] at h ⊢
  rcases h with h | h
  · exact Or.inl (hn x h)
  · refine Or.inr ?_
    obtain ⟨h1, h2⟩ := Bool.and_eq_true_iff.mp h
    obtain ⟨h2, h3⟩ := Bool.and_eq_true_iff.mp h2
    exact Bool.and_eq_true_iff.mpr ⟨h1, Bool.and_eq_true_iff.mpr ⟨decide_eq_true (hl _ (of_decide_eq_true h2)), h3⟩⟩
/-- a drawn module is right -/
theorem right_of {ms : List DM} {m : DM} (M : ∀ m' ∈ ms, DMBase m') (O : DMOk ms m) : RightDM m where
  name := modNames_name _ O.base.name
  nd := O.base.nd
  nms := fun x hx => O.base.nameS hx
  calls := name_of_mem M O
  links := fun l hl => by
    obtain ⟨h1, h2, _⟩ := O.links l hl
    have b1 := beg_is O.base M h1
    have b2 := goe_is O.base M h2
    exact ⟨⟨b1.right (beg_names O.base) fun c hc => List.mem_map_of_mem hc, b2.right (goe_names O.base) fun c hc => List.mem_map_of_mem hc⟩, b1.head.2.1, b2.head.2.1⟩
section
variable {m : DM}
theorem right_name {n : Str} (R : RightDM m) (h : nameS n = true) : RightDM { m with name := n } := ⟨h, R.nd, R.nms, R.calls, R.links⟩
theorem right_links {ls : List (Str × Str × Nat × Nat)} (R : RightDM m) (h : ∀ l ∈ ls, l ∈ m.links) : RightDM { m with links := ls } := ⟨R.name, R.nd, R.nms, R.calls, fun l hl => R.links l (h l hl)⟩
/-- the same names in another order, or more -/
theorem right_names {i o s : List Str} {cs : List (Str × Str)} (R : RightDM m) (nd : (i ++ (o ++ (s ++ cs.map (·.1)))).Nodup) (nm : ∀ x ∈ i ++ (o ++ (s ++ cs.map (·.1))), nameS x = true) (hc : ∀ c ∈ cs, nameS c.2 = true)
    (hi : ∀ x ∈ m.inl, x ∈ i) (ho : ∀ x ∈ m.out, x ∈ o) (hs : ∀ x ∈ m.sta, x ∈ s) (hl : ∀ x ∈ m.calls.map (·.1), x ∈ cs.map (·.1)) : RightDM { m with inl := i, out := o, sta := s, calls := cs } :=
  ⟨R.name, nd, nm, hc, fun l h => by
    obtain ⟨⟨h1, h2⟩, h3⟩ := R.links l h
    refine ⟨⟨end_mono h1 (fun y hy => ?_) hl, end_mono h2 (fun y hy => ?_) hl⟩, h3⟩
    · rcases List.mem_append.mp hy with hy | hy
      · exact List.mem_append_left _ (hi y hy)
      · exact List.mem_append_right _ (hs y hy)
    · rcases List.mem_append.mp hy with hy | hy
      · exact List.mem_append_left _ (hs y hy)
      · exact List.mem_append_right _ (ho y hy)⟩
theorem right_perm {i o s : List Str} {cs : List (Str × Str)} (R : RightDM m) (p1 : i.Perm m.inl) (p2 : o.Perm m.out) (p3 : s.Perm m.sta) (hcs : cs = m.calls) : RightDM { m with inl := i, out := o, sta := s, calls := cs } := by
  subst hcs
  have P : (i ++ (o ++ (s ++ m.calls.map (·.1)))).Perm (namesOf m) := p1.append (p2.append (p3.append_right _))
  exact right_names R (P.nodup_iff.mpr R.nd) (fun x hx => R.nms x (P.mem_iff.mp hx)) R.calls (fun x hx => p1.mem_iff.mpr hx) (fun x hx => p2.mem_iff.mpr hx) (fun x hx => p3.mem_iff.mpr hx) fun x hx => hx
/-- one more name -/
theorem right_more {i o s : List Str} {cs : List (Str × Str)} {q : Str} (R : RightDM m) (hq : q ∉ namesOf m) (nq : nameS q = true) (P : (i ++ (o ++ (s ++ cs.map (·.1)))).Perm (q :: namesOf m)) (hc : ∀ c ∈ cs, nameS c.2 = true)
    (hi : ∀ x ∈ m.inl, x ∈ i) (ho : ∀ x ∈ m.out, x ∈ o) (hs : ∀ x ∈ m.sta, x ∈ s) (hl : ∀ x ∈ m.calls.map (·.1), x ∈ cs.map (·.1)) : RightDM { m with inl := i, out := o, sta := s, calls := cs } :=
  right_names R (P.nodup_iff.mpr (List.nodup_cons.mpr ⟨hq, R.nd⟩)) (fun x hx => by
    rcases List.mem_cons.mp (P.mem_iff.mp hx) with rfl | h
    · exact nq
    · exact R.nms x h) hc hi ho hs hl
theorem rev_ne {l : List Str} (nd : l.Nodup) (h1 : 1 < l.length) (h2 : l.length ≤ 2) : l.reverse ≠ l := by
  match l, h1, h2 with
  | [a, b], _, _ =>
    intro q
    have e : [b, a] = [a, b] := q
    injection e with e1 e2
    rw [e1] at nd
    simp at nd
  | [], h1, _ => simp at h1
  | [_], h1, _ => simp at h1
  | _ :: _ :: _ :: _, _, h2 => simp at h2
theorem app_ne {α : Type} {l : List α} {x : α} : l ++ [x] ≠ l := fun q => by
  have := congrArg List.length q
  simp at this
/-- one after the other unlike m -/
inductive Bent (m : DM) : DM → Prop
  | mk {b : DM} (r : RightDM b) (n : b ≠ m) : Bent m b
theorem qx_no (B : DMBase m) : ("qx" : Str) ∉ namesOf m := fun q => absurd (B.nm _ q) (by decide)
theorem bent_name (B : DMBase m) (R : RightDM m) : Bent m { m with name := "zz" } := .mk (right_name R (by decide)) fun q => by
  have := congrArg DM.name q
  have h : m.name ∈ modNames := B.name
  rw [← this] at h
  revert h
  show ¬ (("zz" : Str) ∈ modNames)
  decide
theorem bent_calls (B : DMBase m) (R : RightDM m) : Bent m { m with calls := m.calls ++ [(("qx" : Str), ("zz" : Str))] } := .mk (right_more (i := m.inl) (o := m.out) (s := m.sta) (q := "qx") R (qx_no B) (by decide) (by
    unfold namesOf
    rw [List.map_append, ← List.append_assoc, ← List.append_assoc, ← List.append_assoc, ← List.append_assoc, ← List.append_assoc]
    exact List.perm_append_comm.trans (List.Perm.refl _)) (fun c hc => by
    rcases List.mem_append.mp hc with hc | hc
    · exact R.calls c hc
    · rw [List.mem_singleton.mp hc]; decide) (fun _ h => h) (fun _ h => h) (fun _ h => h) fun x hx => by rw [List.map_append]; exact List.mem_append_left _ hx) fun q => app_ne (congrArg DM.calls q)
theorem bent_inl (B : DMBase m) (R : RightDM m) : Bent m { m with inl := m.inl ++ [("qx" : Str)] } := .mk (right_more (o := m.out) (s := m.sta) (cs := m.calls) (q := "qx") R (qx_no B) (by decide) (by
    unfold namesOf
    rw [List.append_assoc]
    exact List.perm_middle) R.calls (fun _ h => List.mem_append_left _ h) (fun _ h => h) (fun _ h => h) fun _ h => h) fun q => app_ne (congrArg DM.inl q)
theorem bent_out (B : DMBase m) (R : RightDM m) : Bent m { m with out := m.out ++ [("qx" : Str)] } := .mk (right_more (i := m.inl) (s := m.sta) (cs := m.calls) (q := "qx") R (qx_no B) (by decide) (by
    unfold namesOf
    rw [List.append_assoc]
    exact (List.Perm.append_left m.inl List.perm_middle).trans List.perm_middle) R.calls (fun _ h => h) (fun _ h => List.mem_append_left _ h) (fun _ h => h) fun _ h => h) fun q => app_ne (congrArg DM.out q)
theorem bent_sta (B : DMBase m) (R : RightDM m) : Bent m { m with sta := m.sta ++ [("qx" : Str)] } := .mk (right_more (i := m.inl) (o := m.out) (cs := m.calls) (q := "qx") R (qx_no B) (by decide) (by
    unfold namesOf
    rw [List.append_assoc]
    exact (List.Perm.append_left m.inl ((List.Perm.append_left m.out List.perm_middle).trans List.perm_middle)).trans List.perm_middle) R.calls (fun _ h => h) (fun _ h => h) (fun _ h => List.mem_append_left _ h) fun _ h => h) fun q => app_ne (congrArg DM.sta q)
theorem bent_rinl (B : DMBase m) (R : RightDM m) (h : 1 < m.inl.length) : Bent m { m with inl := m.inl.reverse } := .mk (right_perm (o := m.out) (s := m.sta) R (List.reverse_perm _) (.refl _) (.refl _) rfl) fun q => rev_ne R.parts.1 h B.inl (congrArg DM.inl q)
theorem bent_rout (B : DMBase m) (R : RightDM m) (h : 1 < m.out.length) : Bent m { m with out := m.out.reverse } := .mk (right_perm (i := m.inl) (s := m.sta) R (.refl _) (List.reverse_perm _) (.refl _) rfl) fun q => rev_ne R.parts.2.1 h B.out (congrArg DM.out q)
theorem bent_rsta (B : DMBase m) (R : RightDM m) (h : 1 < m.sta.length) : Bent m { m with sta := m.sta.reverse } := .mk (right_perm (i := m.inl) (o := m.out) R (.refl _) (.refl _) (List.reverse_perm _) rfl) fun q => rev_ne R.parts.2.2.1 h B.sta (congrArg DM.sta q)
end
end My

/-! xs[::0 - 1], xs a list -/
namespace My
open PySem PySem.Spec PyProof.Rows L2
section
variable {X : Cx}
theorem pe_revLZ {e : Expr} {te : TE} {k k2 : Nat} {p1 p2 p3 p4 pos : Pos} (he : PE X e te) : PE X (.Subscript e (.Slice none none (some (.BinOp (.Constant (.int 0) k p1) .Sub (.Constant (.int 1) k2 p2) p3)) p4) pos) (tRevL X.K te) := by
  refine ⟨fun pins s σ H Q I h => ?_⟩
  refine Subscript_ (thn (he.run pins s σ H _ I h) fun v s1 ⟨x, H1, I1, r1, q1⟩ => ?_)
  obtain ⟨a, xs, ex, hx, q⟩ := q1
  subst ex
  cases r1
  have hst : PO X (some (.BinOp (.Constant (.int 0) k p1) .Sub (.Constant (.int 1) k2 p2) p3)) (tPart (tOp (rI0 fun i j => .int (i - j)) (tC (.int 0)) (tC (.int 1)))) := po_some (pe_op op_sub pe_int pe_int)
  refine wpAny_Slice (thn (po_none.run pins s1 σ H1 (fun o H2 => o = none ∧ H2 = H1) I1 ⟨rfl, rfl⟩) fun vl s2 ⟨l, H2, I2, pl, el, e2⟩ => ?_)
  subst el e2
  refine thn (po_none.run pins s2 σ H2 (fun o H3 => o = none ∧ H3 = H2) I2 ⟨rfl, rfl⟩) fun vu s3 ⟨u, H3, I3, pu, eu, e3⟩ => ?_
  subst eu e3
  refine thn (hst.run pins s3 σ H3 (fun o H4 => o = some (-1) ∧ H4 = H3) I3 ⟨0, 1, rfl, rfl, -1, rfl, rfl, rfl⟩) fun vs s4 ⟨o, H4, I4, ps, eo, e4⟩ => ?_
  subst eo e4
  have I5 : Inv X pins σ H4 { s4 with heap := s4.heap.push { cls := .type "slice", data := .fields #[vl, vu, vs] } } := I4.kept (t' := s4.toks) fun b ob q => Heap.get?_push_of_some _ q
  obtain ⟨its, r, ht, hz⟩ := I5.list hx
  have hlen := r.length
  show wpAny (model X.prog X.w) X.A (subscriptTail e (.Slice none none (some (.BinOp (.Constant (.int 0) k p1) .Sub (.Constant (.int 1) k2 p2) p3)) p4) (.ref a) (.ref s4.heap.objs.size)) (EP X pins σ Q) X.xe { s4 with heap := s4.heap.push { cls := .type "slice", data := .fields #[vl, vu, vs] } }
  refine tail_any (ops := [.ref a, .ref s4.heap.objs.size]) ht.isList.typeIs (PySem.slot_list_getitem.lookup) ?_ (by with_unfolding_all rfl)
  refine wpAny_getItem_list_slice ht.isList (Heap.IsSliceOf.new _ vl vu vs) pl pu ps (by decide) ?_ (by rw [List.size_toArray]; omega)
  rw [PySem.W.krv_pick]
  refine ⟨.ref _, _, I5.laid (t' := s4.toks) (o := .lst xs.reverse) (fun b ob q => Heap.get?_push_of_some _ q) (Nat.le_refl _) ?_, rfl, q _ (I5.hok.fresh (Nat.le_refl _))⟩
  exact ⟨by rw [List.length_reverse]; exact hz, _, 0, r.reverse, Heap.get?_push_size _ rfl⟩
end
end My

/-! xs[::0 - 1], xs a tuple -/
namespace MyT
open PySem PySem.Spec PyProof.Rows HT
section
variable {prog : Program} {w : World} {A : Around} {E : Value → Shared → Prop} {s : Shared}
theorem adjust_rev (n : Nat) : Builtin.Slice.sliceAdjust none none (-1) (n : Int) = ((n : Int) - 1, -1) := by
  unfold Builtin.Slice.sliceAdjust
  simp
theorem places_rev (n : Nat) : Builtin.Slice.slicePlaces ((n : Int) - 1) (-1) (-1) = n := by
  unfold Builtin.Slice.slicePlaces
  have h1 : ¬ ((-1 : Int) > 0) := by omega
  simp only [h1, if_false]
  split <;> simp <;> omega
theorem fm_congr {α β : Type} {f g : α → Option β} : ∀ l : List α, (∀ x ∈ l, f x = g x) → l.filterMap f = l.filterMap g
  | [], _ => rfl
  | x :: l, h => by
    rw [List.filterMap_cons, List.filterMap_cons, h x (.head _), fm_congr l fun y hy => h y (.tail _ hy)]
theorem pick_rev (xs : Array Value) : ((List.range xs.size).filterMap fun (m : Nat) => xs[(((xs.size : Int) - 1) + (m : Int) * (-1)).toNat]?).toArray = xs.toList.reverse.toArray := by
  congr 1
  have e : ∀ m ∈ List.range xs.size, xs[(((xs.size : Int) - 1) + (m : Int) * (-1)).toNat]? = xs.toList.reverse[m]? := fun m hm => by
    have hm := List.mem_range.mp hm
    rw [List.getElem?_reverse (by rw [Array.length_toList]; exact hm), Array.getElem?_toList, Array.length_toList]
    congr 1
    omega
  have e2 : (List.range xs.size).filterMap (fun (m : Nat) => xs[(((xs.size : Int) - 1) + (m : Int) * (-1)).toNat]?) = (List.range xs.size).filterMap fun m => xs.toList.reverse[m]? := fm_congr _ e
  rw [e2]
  have := PySem.W.krv_all xs.toList.reverse.toArray
  have l : xs.toList.reverse.toArray.size = xs.size := by simp
  rw [l] at this
  have e3 : (fun (m : Nat) => xs.toList.reverse.toArray[m]?) = fun m => xs.toList.reverse[m]? := by
    funext m
    simp
  rw [e3] at this
  rw [this]
theorem applied_rev {sl : Addr} {vl vu vs : Value} {n : Nat} {Q : Int × Int × Nat → Shared → Prop} (hs : s.heap.IsSliceOf sl vl vu vs) (pl : IsPart vl none) (pu : IsPart vu none) (ps : IsPart vs (some (-1)))
    (h : Q ((n : Int) - 1, -1, n) s) : wpAny (model prog w) A (Builtin.Slice.sliceApplied (.ref sl) (pure (n : Int))) Q E s := by
  obtain ⟨os, hos, hcs, hds⟩ := id hs
  unfold Builtin.Slice.sliceApplied Builtin.Slice.sliceFields
  refine wpAny_bind (wpAny_bind (wpAny_field hos hds (x := vl) rfl (wpAny_bind (wpAny_field hos hds (x := vu) rfl (wpAny_bind (wpAny_field hos hds (x := vs) rfl (wpAny_pure ?_)))))))
  refine wpAny_bind (slicePart_ ps ?_)
  show wpAny _ _ (if ((-1 : Int) == 0) = true then _ else _) _ _ s
  rw [if_neg (by decide)]
  refine wpAny_bind (slicePart_ pl (wpAny_bind (slicePart_ pu (wpAny_bind (wpAny_pure ?_)))))
  show wpAny _ _ (match Builtin.Slice.sliceAdjust none none (-1) (n : Int) with | (lo, hi) => pure (lo, (-1 : Int), Builtin.Slice.slicePlaces lo hi (-1))) _ _ s
  rw [adjust_rev n]
  show wpAny _ _ (pure ((n : Int) - 1, (-1 : Int), Builtin.Slice.slicePlaces ((n : Int) - 1) (-1) (-1))) _ _ s
  rw [places_rev]
  exact wpAny_pure h
theorem getItem_rev {t sl : Addr} {items : Array Value} {vl vu vs : Value} {Q : Value → Shared → Prop} (ht : IsTup s.heap t items) (hs : s.heap.IsSliceOf sl vl vu vs) (pl : IsPart vl none) (pu : IsPart vu none) (ps : IsPart vs (some (-1)))
    (h : Q (.ref s.heap.objs.size) { s with heap := s.heap.push { cls := .type "tuple", data := .seq items.toList.reverse.toArray } })
    (hsz : items.size ≤ sizeLine) : wpAny (model prog w) A (getItem (.ref t) (.ref sl)) Q E s := by
  have htake : sizeOk (.seq items.toList.reverse.toArray) := by
    show items.toList.reverse.toArray.size ≤ sizeLine
    simpa using hsz
  obtain ⟨os, hos, hcs, hds⟩ := id hs
  have hTs : s.TypeIs (.ref sl) "slice" := ⟨os, hos, hcs⟩
  unfold getItem
  try with_reducible refine wpAny_holding ?_
  first | refine wpAny_bind (wpAny_pure ?_) | skip
  refine wpAny_bind (wpAny_sequenceKey ht.typeIs (by decide) ?_)
  refine wpAny_bind (wpAny_callSpecial?_slot (name := Str.ofString "__getitem__") ht.typeIs PyProof.Rows.slot_tuple_getitem
    (wpAny_call_entry PyProof.Rows.slot_tuple_getitem ht.typeIs entry_tuple_getitem ?_ (args_tuple_getitem _ _)))
  show wpAny _ _ (Builtin.Tuple.tupleItemsOf (.ref t) >>= _) _ _ s
  refine wpAny_bind (tupleItemsOf_ ht ?_)
  refine wpAny_bind (wpAny_typeOf hTs ?_)
  rw [if_pos (by decide)]
  refine wpAny_bind (applied_rev hs pl pu ps ?_)
  have hno : ¬ ((((items.size : Int) - 1) == 0 && (-1 : Int) == 1 && items.size == items.size) = true) := by
    intro q
    rw [Bool.and_eq_true, Bool.and_eq_true] at q
    exact absurd q.1.2 (by decide)
  show wpAny _ _ (if (((items.size : Int) - 1) == 0 && (-1 : Int) == 1 && items.size == items.size) = true then _ else _) _ _ s
  rw [if_neg hno, pick_rev]
  first
    | exact wpAny_bind (m := Builtin.Tuple.tupleExact _) (wpAny_newObj_type (wpAny_pure ⟨_, rfl, wpAny_pure h⟩) htake)
    | exact wpAny_bind (m := Builtin.Tuple.tupleExact _) (wpAny_newObj_type (wpAny_bind (wpAny_pure (wpAny_pure ⟨_, rfl, wpAny_pure h⟩))) htake)
    | exact wpAny_bind (wpAny_bind (m := Builtin.Tuple.tupleExact _) (wpAny_newObj_type (wpAny_pure (wpAny_pure ⟨_, rfl, wpAny_pure h⟩)) htake))
    | exact wpAny_bind (wpAny_bind (m := Builtin.Tuple.tupleExact _) (wpAny_newObj_type (wpAny_pure ⟨_, rfl, wpAny_pure h⟩) htake))
end
end MyT
namespace My
open PySem PySem.Spec PyProof.Rows L2
section
variable {X : Cx}
def tRevT (K : PySem.W.Frag) (te : TE) : TE := fun σ H Q => te σ H fun x H1 => ∃ a xs, x = .ref a ∧ SqT K H1 a xs ∧ ∀ p, H1 p = none → Q (.ref p) (upd H1 p (.tup xs.reverse))
theorem pe_revTZ {e : Expr} {te : TE} {k k2 : Nat} {p1 p2 p3 p4 pos : Pos} (he : PE X e te) : PE X (.Subscript e (.Slice none none (some (.BinOp (.Constant (.int 0) k p1) .Sub (.Constant (.int 1) k2 p2) p3)) p4) pos) (tRevT X.K te) := by
  refine ⟨fun pins s σ H Q I h => ?_⟩
  refine Subscript_ (thn (he.run pins s σ H _ I h) fun v s1 ⟨x, H1, I1, r1, q1⟩ => ?_)
  obtain ⟨a, xs, ex, hx, q⟩ := q1
  subst ex
  cases r1
  have hst : PO X (some (.BinOp (.Constant (.int 0) k p1) .Sub (.Constant (.int 1) k2 p2) p3)) (tPart (tOp (rI0 fun i j => .int (i - j)) (tC (.int 0)) (tC (.int 1)))) := po_some (pe_op op_sub pe_int pe_int)
  refine wpAny_Slice (thn (po_none.run pins s1 σ H1 (fun o H2 => o = none ∧ H2 = H1) I1 ⟨rfl, rfl⟩) fun vl s2 ⟨l, H2, I2, pl, el, e2⟩ => ?_)
  subst el e2
  refine thn (po_none.run pins s2 σ H2 (fun o H3 => o = none ∧ H3 = H2) I2 ⟨rfl, rfl⟩) fun vu s3 ⟨u, H3, I3, pu, eu, e3⟩ => ?_
  subst eu e3
  refine thn (hst.run pins s3 σ H3 (fun o H4 => o = some (-1) ∧ H4 = H3) I3 ⟨0, 1, rfl, rfl, -1, rfl, rfl, rfl⟩) fun vs s4 ⟨o, H4, I4, ps, eo, e4⟩ => ?_
  subst eo e4
  have I5 : Inv X pins σ H4 { s4 with heap := s4.heap.push { cls := .type "slice", data := .fields #[vl, vu, vs] } } := I4.kept (t' := s4.toks) fun b ob q => Heap.get?_push_of_some _ q
  obtain ⟨its, r, ht, hz⟩ := I5.tuple hx
  have hlen := r.length
  show wpAny (model X.prog X.w) X.A (subscriptTail e (.Slice none none (some (.BinOp (.Constant (.int 0) k p1) .Sub (.Constant (.int 1) k2 p2) p3)) p4) (.ref a) (.ref s4.heap.objs.size)) (EP X pins σ Q) X.xe { s4 with heap := s4.heap.push { cls := .type "slice", data := .fields #[vl, vu, vs] } }
  refine tail_any (ops := [.ref a, .ref s4.heap.objs.size]) ht.typeIs (PyProof.Rows.slot_tuple_getitem.lookup) ?_ (by with_unfolding_all rfl)
  refine MyT.getItem_rev ht (Heap.IsSliceOf.new _ vl vu vs) pl pu ps ?_ (by rw [List.size_toArray]; omega)
  refine ⟨.ref _, _, I5.laid (t' := s4.toks) (o := .tup xs.reverse) (fun b ob q => Heap.get?_push_of_some _ q) (Nat.le_refl _) ?_, rfl, q _ (I5.hok.fresh (Nat.le_refl _))⟩
  exact ⟨by rw [List.length_reverse]; exact hz, _, r.reverse, IsTup.new _ _⟩
end
end My

namespace My
open PySem PySem.Spec PyProof.Rows L2
local macro_rules | `(tactic| walk_at "side") => `(tactic| first | (dsimp only; omega) | exact ⟨by omega, by omega⟩ | exact Or.inl ⟨by omega, by omega⟩ | exact Or.inr ⟨by omega, by omega⟩ | decide)
local macro_rules | `(tactic| walk_at "sq") => `(tactic| first | assumption | exact SqL.of (by assumption) | exact SqT.of (by assumption) | (refine L2.Same.seq (by assumption) ?_; walk_at "sq") | (refine L2.Same.seqT (by assumption) ?_; walk_at "sq") | exact Or.inl (by walk_at "sq") | exact Or.inr (by walk_at "sq"))
local macro_rules | `(tactic| walk_at "1") => `(tactic| first
  | refine ⟨_, rfl, iteT ?_⟩
  | refine ⟨_, rfl, iteF ?_⟩
  | refine ⟨_, rfl, ?_⟩
  | refine ⟨_, _, rfl, rfl, (by walk_at "side"), ?_⟩
  | refine ⟨_, _, rfl, rfl, ?_⟩
  | refine ⟨_, _, _, _, true, rfl, .ty _, .base (.int _), kit_ty (a := "int") (by decide +kernel), ?_⟩
  | refine ⟨_, _, _, _, false, rfl, .ty _, .base (.int _), kit_ty (a := "int") (by decide +kernel), ?_⟩
  | refine ⟨_, _, rfl, (by walk_at "sq"), ?_⟩
  | refine ⟨_, _, _, _, rfl, rfl, (by walk_at "sq"), (by first | rfl | assumption), ?_⟩
  | refine Or.inl ⟨_, _, _, _, rfl, rfl, (by walk_at "sq"), (by first | rfl | assumption), ?_⟩
  | refine Or.inr (Or.inl ⟨_, _, _, _, rfl, rfl, (by walk_at "sq"), (by first | rfl | assumption), ?_⟩)
  | refine ⟨_, _, rfl, Or.inl ⟨(by walk_at "sq"), ?_⟩⟩
  | refine ⟨rfl, ?_⟩
  | refine iteT ?_
  | refine iteF ?_
  | refine ⟨_, _, _, _, _, rfl, (by assumption), (by assumption), (by assumption), (by assumption), ?_⟩
  | refine Or.inl ⟨_, rfl, ?_⟩
  | refine Or.inr ⟨_, rfl, ?_⟩
  | refine ⟨_, _, rfl, (by walk_at "side"), ?_⟩
  | refine ⟨_, _, rfl, ?_⟩)
local macro_rules | `(tactic| walk_at "fld") => `(tactic| skip)
local macro_rules | `(tactic| walk_at "s") => `(tactic| repeat walk_at "1")
local macro_rules | `(tactic| walk_at "size") => `(tactic| first | exact Nat.le_of_ble_eq_true rfl | (simp only [List.length_map, List.length_append, List.length_cons, List.length_nil]; omega))
local macro_rules | `(tactic| walk_at "new") => `(tactic| (first | refine ⟨(by walk_at "size"), fun p hp => ?_⟩ | refine fun p hp => ?_); (generalize hq : upd _ p _ = H1); (obtain ⟨s, e⟩ := new_facts hp hq); clear hq)
theorem use_D {te : TE} {σ : L2.St} {G H : Hp} {Q : VK} (d : PyData) (s : Same G H) (m : MkD te σ G d) (k : ∀ v G2 H2, Gr G H G2 H2 → Dv G2 v d → Q v H2) : te σ H Q := m G H Q (Same.refl _) s k
theorem use_L {te : TE} {σ : L2.St} {G H : Hp} {Q : VK} (ds : List PyData) (s : Same G H) (m : MkL te σ G ds) (k : ∀ p vs G2 H2, Gr G H G2 H2 → H p = none → G2 p = none → H2 p = some (.lst vs) → DvAll G2 vs ds → Q (.ref p) H2) : te σ H Q := m G H Q (Same.refl _) s k
theorem use_A {ta : TA} {σ : L2.St} {G H : Hp} {Q : List V → Hp → Prop} (ds : List PyData) (s : Same G H) (m : MkA ta σ G ds) (k : ∀ vs G2 H2, Gr G H G2 H2 → DvAll G2 vs ds → Q vs H2) : ta σ H Q := m G H Q (Same.refl _) s k
theorem MkD.num {σ : L2.St} {G : Hp} (n : Nat) {i : Int} (h : i = (n : Int)) : MkD (tC (.int i)) σ G (.int (n : Nat)) := by
  rw [h]
  exact .int _
theorem MkL.rev {K : PySem.W.Frag} {σ : L2.St} {G : Hp} {te : TE} {ds : List PyData} (h : MkD te σ G (.list ds)) : MkL (tRevL K te) σ G ds.reverse := fun G1 H1 Q s1 s2 k =>
  h G1 H1 _ s1 s2 fun x G2 H2 g2 dx => by
    cases dx with
    | @lst a xs _ e1 h1 _ =>
      refine ⟨a, xs, rfl, SqL.of (g2.gh _ _ e1), fun p np => ?_⟩
      have rev : ∀ {xs : List V} {ds : List PyData}, DvAll G2 xs ds → DvAll G2 xs.reverse ds.reverse := by
        intro xs ds h
        induction ds generalizing xs with
        | nil =>
          rw [h.inv0]
          exact .nil
        | cons d ds ih =>
          obtain ⟨y, ys, rfl, h1, h2⟩ := h.inv
          rw [List.reverse_cons, List.reverse_cons]
          exact (ih h2).app (.cons h1 .nil)
      exact k p _ G2 _ (g2.trans (Gr.hold g2.gh np)) (g2.hs.free np) (g2.gh.free np) upd_same (rev h1)
theorem MkL.cast {te : TE} {σ : L2.St} {G : Hp} {d e : List PyData} (h : MkL te σ G d) (q : d = e) : MkL te σ G e := q ▸ h
/-- == of modules -/
structure EqM (P : Program) (w : World) (K : PySem.W.Frag) (mg : Str → Option Value) (base : Heap) (C : Addr) : Prop where
  ex : ∃ f fd, FnOk P w K mg base CX0 1 f fd ["self", "other"] (spEqM K C) ∧ PySem.W.findIn K (.ref C) "__eq__" = some (some (.ref f)) ∧ PySem.W.isFn K (.ref f) = true ∧ Binds K fd ["self", "other"] []
theorem EqM.own {X : Cx} {C : Addr} (O : EqM X.prog X.w X.K X.mg X.base C) (Z : ModEq X.K X.mg C) : EqOwn X CX0 1 C (spEqM X.K C) E0 := by
  obtain ⟨f, fd, F, h1, h2, h3⟩ := O.ex
  exact ⟨⟨f, fd, _, F, h1, h2, h3⟩, Z.ne, Z.mro, pass0⟩
theorem op_eqM {X : Cx} {C : Addr} (O : EqM X.prog X.w X.K X.mg X.base C) (Z : ModEq X.K X.mg C) (hr : Room 1 X.A) : OpR X (compareOp .Eq) (rEqOwn X.K C (spEqM X.K C) E0) := op_eqOwn (O.own Z) hr
theorem op_neM {X : Cx} {C : Addr} (O : EqM X.prog X.w X.K X.mg X.base C) (Z : ModEq X.K X.mg C) (hr : Room 2 X.A) : OpR X (compareOp .NotEq) (rNeOwn X.K C (spEqM X.K C) E0) := op_neOwn (O.own Z) hr
section
variable {K : PySem.W.Frag} {mg : Str → Option Value} {C p q : Addr} {H : Hp} {Q : VK} {m m2 : DM}
theorem rd_eqMod (Z : ModEq K mg C) (h : MoAt K C H p m) (g : MoAt K C H q m2) (c : DMCan m) (c2 : DMCan m2) (k : Q (.bl (decide (m = m2))) H) : rEqOwn K C (spEqM K C) E0 (.ref p) (.ref q) H Q := by
  obtain ⟨dx, t1, t2, t3, t4, t5, e, _⟩ := id h
  obtain ⟨dx2, u1, u2, u3, u4, u5, e2, _⟩ := id g
  exact ⟨p, dx, _, _, rfl, e, Z.ins _ _ _ _ e2, Z.nself, p, m, _, rfl, h, Or.inr ⟨q, m2, rfl, g, c, c2, k⟩⟩
theorem rd_neMod (Z : ModEq K mg C) (h : MoAt K C H p m) (g : MoAt K C H q m2) (c : DMCan m) (c2 : DMCan m2) (k : Q (.bl (!decide (m = m2))) H) : rNeOwn K C (spEqM K C) E0 (.ref p) (.ref q) H Q := by
  obtain ⟨dx, t1, t2, t3, t4, t5, e, _⟩ := id h
  obtain ⟨dx2, u1, u2, u3, u4, u5, e2, _⟩ := id g
  exact ⟨p, dx, _, _, rfl, e, Z.ins _ _ _ _ e2, Z.nself, p, m, _, rfl, h, Or.inr ⟨q, m2, rfl, g, c, c2, _, rfl, k⟩⟩
theorem rd_eqOdd (Z : ModEq K mg C) (h : MoAt K C H p m) {y : V} {t : Value} (ty : TyX K H y t) (kt : PySem.W.kitOne K t (.ref C) = some false) (nf : PySem.W.notFirst K C t = true) (k : Q (.bl false) H) : rEqOwn K C (spEqM K C) E0 (.ref p) y H Q := by
  obtain ⟨dx, t1, t2, t3, t4, t5, e, _⟩ := id h
  exact ⟨p, dx, _, _, rfl, e, ty, nf, p, m, _, rfl, h, Or.inl ⟨_, ty, kt, k⟩⟩
end
/-- what a module's dict has for a word -/
theorem ModF.arg {G : Hp} {v : V} {m : DM} (h : ModF G v m) (on : okS m.name = true) : ∃ d kvs, v = .ref d ∧ G d = some (.dK kvs) ∧ ∀ (i : Nat) (y : Str), words[i]? = some y → ∃ z dd, valV kvs (kS y) = some z ∧ (args m)[i]? = some dd ∧ Dv G z dd := by
  obtain ⟨d, kvs, a1, a2, a3, a4, a5, e, ed, h0, h1, h2, h3, h4, h5, g1, g2, g3, g4, g5⟩ := h
  refine ⟨d, kvs, e, ed, fun i y hy => ?_⟩
  match i, hy with
  | 0, hy =>
    obtain rfl := Option.some.inj (show some ("name" : Str) = some y from hy)
    exact ⟨_, _, h0, rfl, .str on⟩
  | 1, hy =>
    obtain rfl := Option.some.inj (show some ("inlets" : Str) = some y from hy)
    exact ⟨_, _, h1, rfl, g1⟩
  | 2, hy =>
    obtain rfl := Option.some.inj (show some ("outlets" : Str) = some y from hy)
    exact ⟨_, _, h2, rfl, g2⟩
  | 3, hy =>
    obtain rfl := Option.some.inj (show some ("stations" : Str) = some y from hy)
    exact ⟨_, _, h3, rfl, g3⟩
  | 4, hy =>
    obtain rfl := Option.some.inj (show some ("links" : Str) = some y from hy)
    exact ⟨_, _, h4, rfl, g4⟩
  | 5, hy =>
    obtain rfl := Option.some.inj (show some ("calls" : Str) = some y from hy)
    exact ⟨_, _, h5, rfl, g5⟩
  | i + 6, hy => exact absurd hy (by show ¬ (none = some y); simp)
theorem args_at {H : Hp} {m : DM} {vs : List V} (h : DvAll H vs (args m)) : ArgsAt H m vs := by
  obtain ⟨v0, ys, rfl, h0, h⟩ := h.inv
  obtain ⟨v1, ys, rfl, h1, h⟩ := h.inv
  obtain ⟨v2, ys, rfl, h2, h⟩ := h.inv
  obtain ⟨v3, ys, rfl, h3, h⟩ := h.inv
  obtain ⟨v4, ys, rfl, h4, h⟩ := h.inv
  obtain ⟨v5, ys, rfl, h5, h⟩ := h.inv
  obtain rfl := h.inv0
  cases h0 with
  | str ok => exact ⟨v1, v2, v3, v4, v5, _, _, _, _, _, rfl, ok, h1, h2, h3, h4, h5, Or.inl rfl, Or.inl rfl, Or.inl rfl, Or.inl rfl, Or.inl rfl⟩
/-- the row at a place, longer by a name, and turned -/
def rowAt (m : DM) : Nat → List Str
  | 1 => m.inl
  | 2 => m.out
  | _ => m.sta
theorem bent_at {m : DM} (B : DMBase m) (R : RightDM m) {n : Nat} (h : n = 1 ∨ n = 2 ∨ n = 3) : (args m)[n]? = some (.list ((rowAt m n).map .str)) ∧ (rowAt m n).length ≤ 2 ∧
    (∃ b, Bent m b ∧ (args m).take n ++ [.list ((rowAt m n).map .str ++ [.str "qx"])] ++ (args m).drop (n + 1) = args b) ∧
    (1 < (rowAt m n).length → ∃ b, Bent m b ∧ (args m).take n ++ [.list ((rowAt m n).map PyData.str).reverse] ++ (args m).drop (n + 1) = args b) := by
  rcases h with rfl | rfl | rfl
  · exact ⟨rfl, B.inl, ⟨_, bent_inl B R, by simp [args, strL, rowAt]⟩, fun h => ⟨_, bent_rinl B R h, by simp [args, strL, rowAt, List.map_reverse]⟩⟩
  · exact ⟨rfl, B.out, ⟨_, bent_out B R, by simp [args, strL, rowAt]⟩, fun h => ⟨_, bent_rout B R h, by simp [args, strL, rowAt, List.map_reverse]⟩⟩
  · exact ⟨rfl, B.sta, ⟨_, bent_sta B R, by simp [args, strL, rowAt]⟩, fun h => ⟨_, bent_rsta B R h, by simp [args, strL, rowAt, List.map_reverse]⟩⟩
def spUnlike (K : PySem.W.Frag) (C : Addr) : Sp := fun vs H Q _ => ∃ (v : V) (p : Addr) (m : DM), vs = [v, .ref p] ∧ ModF H v m ∧ MoAt K C H p m ∧ DMBase m ∧ RightDM m ∧ ∀ H', Same H H' → Q (.bl true) H'
section
variable {K : PySem.W.Frag} {σ : L2.St} {G : Hp} {S : Addr} {m : DM} {n : Nat}
theorem args_len (m : DM) : (args m).length = 6 := rfl
def tZz (K : PySem.W.Frag) : TE := tOp rCat (tLst (tCons (tC (.str "zz")) tNil)) (tSl (rSlL K) (tVar 2) (tPart (tC (.int 1))) tNoPart)
def tQx (K : PySem.W.Frag) : TE := tOp rCat (tSl (rSlL K) (tVar 2) tNoPart (tPart (tC (.int 5)))) (tLst (tCons (tOp rCat (tOp (rIxL K) (tVar 2) (tC (.int 5))) (tLst (tCons (tTup (tCons (tC (.str "qx")) (tCons (tC (.str "zz")) tNil))) tNil))) tNil))
def tMore (K : PySem.W.Frag) : TE := tOp rCat (tOp rCat (tSl (rSlL K) (tVar 2) tNoPart (tPart (tVar 4))) (tLst (tCons (tOp rCat (tOp (rIxL K) (tVar 2) (tVar 4)) (tLst (tCons (tC (.str "qx")) tNil))) tNil))) (tSl (rSlL K) (tVar 2) (tPart (tOp (rI0 fun i j => .int (i + j)) (tVar 4) (tC (.int 1)))) tNoPart)
def tTurn (K : PySem.W.Frag) : TE := tOp rCat (tOp rCat (tSl (rSlL K) (tVar 2) tNoPart (tPart (tVar 4))) (tLst (tCons (tRevL K (tOp (rIxL K) (tVar 2) (tVar 4))) tNil))) (tSl (rSlL K) (tVar 2) (tPart (tOp (rI0 fun i j => .int (i + j)) (tVar 4) (tC (.int 1)))) tNoPart)
theorem mk_zz (hσ : σ[2]? = some (some (.ref S))) (dS : Dv G (.ref S) (.list (args m))) : MkD (tZz K) σ G (.list (args { m with name := "zz" })) := by
  have h1 : MkD (tLst (tCons (tC (.str "zz")) tNil)) σ G (.list [.str "zz"]) := MkD.lst (MkA.cons (MkD.str (by decide +kernel)) MkA.nil) (by decide)
  have h2 : MkL (tSl (rSlL K) (tVar 2) (tPart (tC (.int 1))) tNoPart) σ G ((args m).drop 1) := MkL.slFrom (n := 1) (MkD.var hσ dS) (MkD.num 1 rfl)
  have l2 : ((args m).drop 1).length = 5 := rfl
  have h3 := MkL.cat h1 (h2.dat (by omega)) (by rw [l2]; decide)
  have e : [PyData.str "zz"] ++ (args m).drop 1 = args { m with name := "zz" } := rfl
  rw [e] at h3
  exact h3.dat (by rw [args_len]; decide)
theorem mk_qx (hσ : σ[2]? = some (some (.ref S))) (dS : Dv G (.ref S) (.list (args m))) (few : m.calls.length ≤ 2) : MkD (tQx K) σ G (.list (args { m with calls := m.calls ++ [(("qx" : Str), ("zz" : Str))] })) := by
  have h1 : MkL (tSl (rSlL K) (tVar 2) tNoPart (tPart (tC (.int 5)))) σ G ((args m).take 5) := MkL.slTo (n := 5) (MkD.var hσ dS) (MkD.num 5 rfl)
  have h2 : MkD (tOp (rIxL K) (tVar 2) (tC (.int 5))) σ G (.list (m.calls.map callD)) := MkD.ix (n := 5) (MkD.var hσ dS) (MkD.num 5 rfl) rfl
  have h3 : MkD (tLst (tCons (tTup (tCons (tC (.str "qx")) (tCons (tC (.str "zz")) tNil))) tNil)) σ G (.list [.tuple [.str "qx", .str "zz"]]) := MkD.lst (MkA.cons (MkD.tup (MkA.cons (MkD.str (by decide +kernel)) (MkA.cons (MkD.str (by decide +kernel)) MkA.nil)) (by decide)) MkA.nil) (by decide)
  have l5 : ((args m).take 5).length = 5 := rfl
  have h4 := MkL.cat h2 h3 (by simp only [List.length_map, List.length_cons, List.length_nil]; omega)
  have h5 := MkD.lst (MkA.cons (h4.dat (by simp only [List.length_append, List.length_map, List.length_cons, List.length_nil]; omega)) MkA.nil) (by simp)
  have h6 := MkL.cat (h1.dat (by omega)) h5 (by rw [l5]; simp)
  have e : (args m).take 5 ++ [PyData.list (m.calls.map callD ++ [.tuple [.str "qx", .str "zz"]])] = args { m with calls := m.calls ++ [(("qx" : Str), ("zz" : Str))] } := by simp [args, callD]
  rw [e] at h6
  exact h6.dat (by rw [args_len]; decide)
theorem mk_more {b : DM} {row : List Str} (hσ : σ[2]? = some (some (.ref S))) (h4 : σ[4]? = some (some (.int (n : Nat)))) (dS : Dv G (.ref S) (.list (args m))) (hr : (args m)[n]? = some (.list (row.map .str))) (hl : row.length ≤ 2)
    (e : (args m).take n ++ [.list (row.map .str ++ [.str "qx"])] ++ (args m).drop (n + 1) = args b) : MkD (tMore K) σ G (.list (args b)) := by
  have v4 : MkD (tVar 4) σ G (.int (n : Nat)) := MkD.var h4 (.int _)
  have h1 : MkL (tSl (rSlL K) (tVar 2) tNoPart (tPart (tVar 4))) σ G ((args m).take n) := MkL.slTo (n := n) (MkD.var hσ dS) v4
  have h2 : MkD (tOp (rIxL K) (tVar 2) (tVar 4)) σ G (.list (row.map .str)) := MkD.ix (n := n) (MkD.var hσ dS) v4 hr
  have h3 : MkD (tLst (tCons (tC (.str "qx")) tNil)) σ G (.list [.str "qx"]) := MkD.lst (MkA.cons (MkD.str (by decide +kernel)) MkA.nil) (by decide)
  have a1 : MkD (tOp (rI0 fun i j => .int (i + j)) (tVar 4) (tC (.int 1))) σ G (.int ((n + 1 : Nat) : Int)) := MkD.add v4 (MkD.int 1)
  have h7 : MkL (tSl (rSlL K) (tVar 2) (tPart (tOp (rI0 fun i j => .int (i + j)) (tVar 4) (tC (.int 1)))) tNoPart) σ G ((args m).drop (n + 1)) := MkL.slFrom (n := n + 1) (MkD.var hσ dS) a1
  have lt : ((args m).take n).length ≤ 6 := by rw [List.length_take, args_len]; omega
  have ld : ((args m).drop (n + 1)).length ≤ 6 := by rw [List.length_drop, args_len]; omega
  have h4 := MkL.cat h2 h3 (by simp only [List.length_map, List.length_cons, List.length_nil]; omega)
  have h5 := MkD.lst (MkA.cons (h4.dat (by simp only [List.length_append, List.length_map, List.length_cons, List.length_nil]; omega)) MkA.nil) (by simp)
  have h6 := MkL.cat (h1.dat (by omega)) h5 (by simp only [List.length_cons, List.length_nil]; omega)
  have h8 := MkL.cat (h6.dat (by simp only [List.length_append, List.length_cons, List.length_nil]; omega)) (h7.dat (by omega)) (by simp only [List.length_append, List.length_cons, List.length_nil]; omega)
  rw [e] at h8
  exact h8.dat (by rw [args_len]; decide)
theorem mk_turn {b : DM} {row : List Str} (hσ : σ[2]? = some (some (.ref S))) (h4 : σ[4]? = some (some (.int (n : Nat)))) (dS : Dv G (.ref S) (.list (args m))) (hr : (args m)[n]? = some (.list (row.map .str))) (hl : row.length ≤ 2)
    (e : (args m).take n ++ [.list (row.map PyData.str).reverse] ++ (args m).drop (n + 1) = args b) : MkD (tTurn K) σ G (.list (args b)) := by
  have v4 : MkD (tVar 4) σ G (.int (n : Nat)) := MkD.var h4 (.int _)
  have h1 : MkL (tSl (rSlL K) (tVar 2) tNoPart (tPart (tVar 4))) σ G ((args m).take n) := MkL.slTo (n := n) (MkD.var hσ dS) v4
  have h2 : MkD (tOp (rIxL K) (tVar 2) (tVar 4)) σ G (.list (row.map .str)) := MkD.ix (n := n) (MkD.var hσ dS) v4 hr
  have a1 : MkD (tOp (rI0 fun i j => .int (i + j)) (tVar 4) (tC (.int 1))) σ G (.int ((n + 1 : Nat) : Int)) := MkD.add v4 (MkD.int 1)
  have h7 : MkL (tSl (rSlL K) (tVar 2) (tPart (tOp (rI0 fun i j => .int (i + j)) (tVar 4) (tC (.int 1)))) tNoPart) σ G ((args m).drop (n + 1)) := MkL.slFrom (n := n + 1) (MkD.var hσ dS) a1
  have lt : ((args m).take n).length ≤ 6 := by rw [List.length_take, args_len]; omega
  have ld : ((args m).drop (n + 1)).length ≤ 6 := by rw [List.length_drop, args_len]; omega
  have h4 := MkL.rev (K := K) h2
  have h5 := MkD.lst (MkA.cons (h4.dat (by simp only [List.length_reverse, List.length_map]; omega)) MkA.nil) (by simp)
  have h6 := MkL.cat (h1.dat (by omega)) h5 (by simp only [List.length_cons, List.length_nil]; omega)
  have h8 := MkL.cat (h6.dat (by simp only [List.length_append, List.length_cons, List.length_nil]; omega)) (h7.dat (by omega)) (by simp only [List.length_append, List.length_cons, List.length_nil]; omega)
  rw [e] at h8
  exact h8.dat (by rw [args_len]; decide)
end
end My

namespace My
open PySem PySem.Spec PyProof.Rows L2
local macro_rules | `(tactic| walk_at "side") => `(tactic| first | (dsimp only; omega) | exact ⟨by omega, by omega⟩ | exact Or.inl ⟨by omega, by omega⟩ | exact Or.inr ⟨by omega, by omega⟩ | decide)
local macro_rules | `(tactic| walk_at "sq") => `(tactic| first | assumption | exact SqL.of (by assumption) | exact SqT.of (by assumption) | (refine L2.Same.seq (by assumption) ?_; walk_at "sq") | (refine L2.Same.seqT (by assumption) ?_; walk_at "sq") | exact Or.inl (by walk_at "sq") | exact Or.inr (by walk_at "sq"))
local macro_rules | `(tactic| walk_at "1") => `(tactic| first
  | refine ⟨_, rfl, iteT ?_⟩
  | refine ⟨_, rfl, iteF ?_⟩
  | refine ⟨_, rfl, ?_⟩
  | refine ⟨_, _, rfl, rfl, (by walk_at "side"), ?_⟩
  | refine ⟨_, _, rfl, rfl, ?_⟩
  | refine ⟨_, _, _, _, true, rfl, .ty _, .base (.int _), kit_ty (a := "int") (by decide +kernel), ?_⟩
  | refine ⟨_, _, _, _, false, rfl, .ty _, .base (.int _), kit_ty (a := "int") (by decide +kernel), ?_⟩
  | refine ⟨_, _, rfl, (by walk_at "sq"), ?_⟩
  | refine ⟨_, _, _, _, rfl, rfl, (by walk_at "sq"), (by first | rfl | assumption), ?_⟩
  | refine Or.inl ⟨_, _, _, _, rfl, rfl, (by walk_at "sq"), (by first | rfl | assumption), ?_⟩
  | refine Or.inr (Or.inl ⟨_, _, _, _, rfl, rfl, (by walk_at "sq"), (by first | rfl | assumption), ?_⟩)
  | refine ⟨_, _, rfl, Or.inl ⟨(by walk_at "sq"), ?_⟩⟩
  | refine ⟨rfl, ?_⟩
  | refine iteT ?_
  | refine iteF ?_
  | refine ⟨_, _, _, _, _, rfl, (by assumption), (by assumption), (by assumption), (by assumption), ?_⟩
  | refine Or.inl ⟨_, rfl, ?_⟩
  | refine Or.inr ⟨_, rfl, ?_⟩
  | refine ⟨_, _, rfl, (by walk_at "side"), ?_⟩
  | refine ⟨_, _, rfl, ?_⟩)
local macro_rules | `(tactic| walk_at "fld") => `(tactic| skip)
local macro_rules | `(tactic| walk_at "s") => `(tactic| repeat walk_at "1")
local macro_rules | `(tactic| walk_at "size") => `(tactic| first | exact Nat.le_of_ble_eq_true rfl | (simp only [List.length_map, List.length_append, List.length_cons, List.length_nil]; omega))
local macro_rules | `(tactic| walk_at "new") => `(tactic| (first | refine ⟨(by walk_at "size"), fun p hp => ?_⟩ | refine fun p hp => ?_); (generalize hq : upd _ p _ = H1); (obtain ⟨s, e⟩ := new_facts hp hq); clear hq)
/-- Module(..) of right arguments, the object given -/
theorem rd_makeX {C x dx : Addr} {H : Hp} {m : DM} {vs : List V} {R : Hp → Prop} (nx : H x = none) (ndx : H dx = none) (nex : dx ≠ x) (g : GoodDM m) (h : ArgsAt H m vs) (k : ∀ H', Same H H' → MoDv C H' x m → R H') :
    spInitG C (.ref x :: (vs ++ [])) (upd (upd H dx (.own x)) x (.ins C dx [])) (fun v H2 => v = .non ∧ R H2) E0 := by
  obtain ⟨v1, v2, v3, v4, v5, d1, d2, d3, d4, d5, rfl, ok, h1, h2, h3, h4, h5, q1, q2, q3, q4, q5⟩ := h
  have sx : Same H (upd (upd H dx (.own x)) x (.ins C dx [])) := fun b o e => by
    rw [upd_ne (ne_of_none e nx), upd_ne (ne_of_none e ndx)]
    exact e
  exact ⟨H, x, dx, .str m.name, v1, v2, v3, v4, v5, .str m.name, d1, d2, d3, d4, d5, rfl, nx, sx, upd_same, .str ok, h1, h2, h3, h4, h5, by rw [q5.items]; exact labs_ok _, word_seq q1 q2 q3 q4 q5 g.word, fun H' s' mo => ⟨rfl, k H' s' (moDv q1 q2 q3 q4 q5 mo)⟩⟩
theorem st_g {i : Nat} {v : V} {σ : L2.St} {H : Hp} {Q : L2.St → Hp → Prop} (h : Q (σ.set i (some v)) H) : gName i v σ H Q := h
section
variable {P : Program} {w : World} {K : PySem.W.Frag} {mg : Str → Option Value} {base : Heap} {C : Addr}
abbrev s_law_is_unlike_others : Stmt := topS 61
theorem sc_law_is_unlike_others : FnScope ["module", "made", "some", "bent", "spot", "one", "other", "word"] ["module", "made"] (defScope s_law_is_unlike_others) := ⟨rfl, rfl, rfl, by decide +kernel, rfl, by decide +kernel, by decide +kernel⟩
set_option maxHeartbeats 16000000 in
theorem ok_law_unlike (D : Df K mg "_law_is_unlike_others" s_law_is_unlike_others ["module", "made"]) (T : Txt mg) (Z : ModEq K mg C) (oq : EqM P w K mg base C) (o_Module : Mks P w K mg base "Module" C 6 ["self", "name", "inlets", "outlets", "stations", "links", "calls"] (spInitG C)) :
    Own P w K mg base "_law_is_unlike_others" 8 ["module", "made"] (spUnlike K C) := by
  refine D.own sc_law_is_unlike_others (fun vs H Q E h => ?_) (fun f cdv A outer s H vs Q E hr h => ?_)
  · obtain ⟨_, _, _, rfl, _⟩ := h
    rfl
  · obtain ⟨v, p, m, rfl, hF, hM, B, R, k⟩ := h
    have hu := hu_of hr
    refine ⟨_, (pss_cons (ps_setLc (i := 2) (own := [("word", 7)]) (g := gName 7) (tt := tYes) rfl sc_law_is_unlike_others.nd rfl rfl (sw_true rfl rfl rfl (by decide +kernel)) (pi_tup (pe_tup (pa_cons pe_str (pa_cons pe_str (pa_cons pe_str (pa_cons pe_str (pa_cons pe_str (pa_cons pe_str pa_nil)))))))) (blkOk_by (own := [("word", 7)]) (N := ["module", "made", "some", "bent", "spot", "one", "other", "word"]) (sc := defScope s_law_is_unlike_others) (by decide +kernel)) (fun _ _ _ _ _ => (pg_name (i := 7) sc_law_is_unlike_others.nd rfl (Or.inl rfl))) (fun _ _ _ _ _ => pts_nil) (fun _ _ _ _ _ => (pe_dget hu (pv 0) (pv 7) (fun _ _ => rfl))))
  (pss_cons (ps_set (i := 3) sc_law_is_unlike_others.nd rfl (Or.inl rfl) (pe_lst (pa_cons (pe_op op_cat (pe_lst (pa_cons pe_str pa_nil)) (pe_slice sl_list (pv 2) (po_some pe_int) po_none)) (pa_cons (pe_op op_cat (pe_slice sl_list (pv 2) po_none (po_some pe_int)) (pe_lst (pa_cons (pe_op op_cat (pe_ix ix_list (pv 2) pe_int (fun _ _ => rfl)) (pe_lst (pa_cons (pe_tup (pa_cons pe_str (pa_cons pe_str pa_nil))) pa_nil))) pa_nil))) pa_nil))))
  (pss_cons (ps_for PassesOwn.never rfl (pi_tup (pe_tup (pa_cons pe_int (pa_cons pe_int (pa_cons pe_int pa_nil))))) (pg_name (i := 4) sc_law_is_unlike_others.nd rfl (Or.inl rfl))
    (pss_cons (ps_expr (pe_bm PySem.F.plainAttrs_list PySem.F.slot_list_append PySem.F.type_list_append mt_append (pv 3) (pa_cons (pe_op op_cat (pe_op op_cat (pe_slice sl_list (pv 2) po_none (po_some (pv 4))) (pe_lst (pa_cons (pe_op op_cat (pe_ix ix_list (pv 2) (pv 4) (fun _ _ => rfl)) (pe_lst (pa_cons pe_str pa_nil))) pa_nil))) (pe_slice sl_list (pv 2) (po_some (pe_op op_add (pv 4) pe_int)) po_none)) pa_nil)))
      (pss_one (ps_if (pt_cmpR op_gt (pe_callB call_len_seq (by rfl) T.len PySem.boot_len (pa_cons (pe_ix ix_list (pv 2) (pv 4) (fun _ _ => rfl)) pa_nil)) pe_int (nomark _))
        (pss_one (ps_expr (pe_bm PySem.F.plainAttrs_list PySem.F.slot_list_append PySem.F.type_list_append mt_append (pv 3) (pa_cons (pe_op op_cat (pe_op op_cat (pe_slice sl_list (pv 2) po_none (po_some (pv 4))) (pe_lst (pa_cons (pe_revLZ (pe_ix ix_list (pv 2) (pv 4) (fun _ _ => rfl))) pa_nil))) (pe_slice sl_list (pv 2) (po_some (pe_op op_add (pv 4) pe_int)) po_none)) pa_nil))))
        pss_nil))))
  (pss_cons (ps_for PassesOwn.never rfl (pi_list (pv 3)) (pg_name (i := 5) sc_law_is_unlike_others.nd rfl (Or.inl rfl))
    (pss_cons (ps_set (i := 6) sc_law_is_unlike_others.nd rfl (Or.inl rfl) (pe_mks o_Module (hr.mono (by decide)) (pa_cons (pe_ix ix_list (pv 5) pe_int (fun _ _ => rfl)) (pa_cons (pe_ix ix_list (pv 5) pe_int (fun _ _ => rfl)) (pa_cons (pe_ix ix_list (pv 5) pe_int (fun _ _ => rfl)) (pa_cons (pe_ix ix_list (pv 5) pe_int (fun _ _ => rfl)) (pa_cons (pe_ix ix_list (pv 5) pe_int (fun _ _ => rfl)) (pa_cons (pe_ix ix_list (pv 5) pe_int (fun _ _ => rfl)) pa_nil))))))))
      (pss_one (ps_if (PW.pt (pw_or (pt_cmpR (op_eqM oq Z (hr.mono (by decide))) (pv 6) (pv 1) (nomark _)) (pw_or1 (pt_cmpR (op_eqM oq Z (hr.mono (by decide))) (pv 1) (pv 6) (nomark _)))))
        (pss_one (ps_ret pe_bl))
        pss_nil))))
  (pss_one (ps_ret pe_bl)))))), ?_⟩
    have on : okS m.name = true := okS_name R.name
    obtain ⟨d, kvs, rfl, ed, arg⟩ := hF.arg on
    -- some
    refine ⟨Nat.le_of_ble_eq_true rfl, fun pw nw => ?_⟩
    generalize hq : upd H pw _ = H1
    obtain ⟨s1, ew⟩ := new_facts nw hq
    clear hq
    have ew : H1 pw = some (.tup (words.map V.str)) := ew
    refine ⟨pw, rfl, ⟨_, SqT.of ew⟩, fun S nS => lc_seq (seqIt_t (SqT.of ew)) (fun i H' => Same H1 H' ∧ ∃ zs, H' S = some (.lst zs) ∧ DvAll H1 zs ((args m).take i)) ⟨same_upd nS, [], upd_same, .nil⟩ (fun i H' q => q.1) ?_ ?_⟩
    · rintro i x H' hx ⟨s2, zs, eS, hz⟩
      rw [List.getElem?_map] at hx
      cases hy : words[i]? with
      | none => rw [hy] at hx; cases hx
      | some y =>
        rw [hy] at hx
        obtain rfl := Option.some.inj (show some (V.str y) = some x from hx)
        obtain ⟨z, dd, hz1, hz2, hz3⟩ := arg i y hy
        have hi : i < 6 := (List.getElem?_eq_some_iff.mp hy).1
        refine ⟨rfl, _, rfl, _, rfl, d, z, rfl, dget_s (s2 _ _ (s1 _ _ ed)) hz1, zs, eS, small1000_2 (by rw [hz.len, List.length_take]; omega), s2.upd1 nS, zs ++ [z], upd_same, ?_⟩
        rw [List.take_add_one, hz2]
        exact hz.app (.cons (hz3.same s1) .nil)
    · rintro H2 ⟨s2, zs, eS, hz⟩
      rw [show (args m).take (words.map V.str).length = args m from rfl] at hz
      have hz2 := hz.same s2
      have dS : Dv H2 (.ref S) (.list (args m)) := .lst eS hz2 (Nat.le_of_ble_eq_true rfl)
      have sH2 := s1.trans s2
      -- bent
      have bn := bent_name B R
      have bc := bent_calls B R
      obtain ⟨b1, hb1⟩ : ∃ b, b = ({ m with name := "zz" } : DM) := ⟨_, rfl⟩
      obtain ⟨b2, hb2⟩ : ∃ b, b = ({ m with calls := m.calls ++ [(("qx" : Str), ("zz" : Str))] } : DM) := ⟨_, rfl⟩
      have hz1 : ∀ σ : L2.St, σ[2]? = some (some (.ref S)) → MkD (tZz K) σ H2 (.list (args b1)) := fun σ h => hb1 ▸ mk_zz h dS
      have hz2 : ∀ σ : L2.St, σ[2]? = some (some (.ref S)) → MkD (tQx K) σ H2 (.list (args b2)) := fun σ h => hb2 ▸ mk_qx h dS B.few
      rw [← hb1] at bn
      rw [← hb2] at bc
      clear hb1 hb2
      refine st_g ?_
      dsimp only
      refine st_set ?_
      refine use_L [PyData.list (args b1), .list (args b2)] (Same.refl H2) (MkL.lst (MkA.cons (hz1 _ rfl) (MkA.cons (hz2 _ rfl) MkA.nil)) (by simp)) fun L vs G3 H3 g3 nL gL eL dL => ?_
      obtain ⟨ds0, hds0⟩ : ∃ ds, ds = [PyData.list (args b1), .list (args b2)] := ⟨_, rfl⟩
      have mem2 : ∀ dd ∈ ds0, ∃ b, Bent m b ∧ dd = .list (args b) := fun dd hdd => by
        rw [hds0] at hdd
        rcases List.mem_cons.mp hdd with rfl | hdd
        · exact ⟨_, bn, rfl⟩
        · exact ⟨_, bc, List.mem_singleton.mp hdd⟩
      have len2 : ds0.length = 2 := by rw [hds0]; rfl
      rw [← hds0] at dL
      clear hds0 hz1 hz2 bn bc
      -- the three places
      refine ⟨Nat.le_of_ble_eq_true rfl, fun pt nt => ?_⟩
      generalize hq : upd H3 pt _ = H4
      obtain ⟨s4, et⟩ := new_facts nt hq
      clear hq
      have s24 : Same H2 H4 := g3.hs.trans s4
      have gpt : G3 pt = none := g3.gh.free nt
      have Lpt : L ≠ pt := ne_of_none eL nt
      obtain ⟨G4, hG4⟩ : ∃ G, G = upd G3 pt (.tup [.int 1, .int 2, .int 3]) := ⟨_, rfl⟩
      have g34 : Same G3 G4 := hG4 ▸ same_upd gpt
      have sG4 : Same G4 H4 := fun c o e => by
        by_cases w1 : c = pt
        · rw [hG4, w1, upd_same] at e
          rw [w1, et]
          exact e
        · rw [hG4, upd_ne w1] at e
          exact s4 _ _ (g3.gh _ _ e)
      have G4L : G4 L = none := by rw [hG4, upd_ne Lpt]; exact gL
      have G4t : G4 pt = some (.tup [.int 1, .int 2, .int 3]) := by rw [hG4, upd_same]
      have sHG : Same H2 G4 := g3.gs.trans g34
      refine ⟨pt, rfl, ⟨_, SqT.of et⟩, for_seq (H0 := G4) (seqIt_t (SqT.of G4t)) (fun i σ' H' => ∃ (G : Hp) (vs : List V) (ds : List PyData) (y : Option V), σ' = [some (.ref d), some (.ref p), some (.ref S), some (.ref L), y, none, none, none] ∧ Same G4 G ∧ Same G H' ∧ G L = none ∧ H' L = some (.lst vs) ∧ DvAll G vs ds ∧
        (∀ dd ∈ ds, ∃ b, Bent m b ∧ dd = .list (args b)) ∧ ds.length ≤ 2 + 2 * i) ⟨G4, vs, ds0, none, rfl, Same.refl _, sG4, G4L, s4 _ _ eL, dL.same g34, mem2, by omega⟩ (fun i σ' H' q => by obtain ⟨_, _, _, _, _, a, b, _⟩ := q; exact a.trans b) ?_ ?_⟩
      · rintro i x σ' H' hx ⟨G, vs, ds, y, rfl, a1, a2, a3, a4, a5, a6, a7⟩
        obtain ⟨n, hn, rfl, hi⟩ : ∃ n : Nat, (n = 1 ∨ n = 2 ∨ n = 3) ∧ x = .int (n : Nat) ∧ i < 3 := by
          match i, hx with
          | 0, hx => cases hx; exact ⟨1, Or.inl rfl, rfl, by decide⟩
          | 1, hx => cases hx; exact ⟨2, Or.inr (Or.inl rfl), rfl, by decide⟩
          | 2, hx => cases hx; exact ⟨3, Or.inr (Or.inr rfl), rfl, by decide⟩
          | _ + 3, hx => cases hx
        obtain ⟨r1, r2, ⟨b, hb, eb⟩, r4⟩ := bent_at B R hn
        have dSG : Dv G (.ref S) (.list (args m)) := dS.same (sHG.trans a1)
        refine st_g ?_
        dsimp only
        refine st_seq (st_drop (st_bm ?_))
        refine ⟨_, rfl, Or.inl ⟨rfl, _, SqL.of a4⟩, ?_⟩
        refine st_cons ?_
        refine use_D (.list (args b)) a2 (mk_more rfl rfl dSG r1 r2 eb) fun v G5 H5 g5 dv => ?_
        have G5L : G5 L = none := g5.nn _ _ a4 a3
        refine ⟨L, vs, v, rfl, rfl, g5.hs _ _ a4, Nat.lt_of_le_of_lt (show _ ≤ 10 by rw [a5.len]; omega) (by decide), ?_⟩
        generalize hq : upd H5 L _ = H6
        obtain ⟨e6, o6⟩ := upd_facts hq
        clear hq
        have s56 : Same G5 H6 := fun c o e => by
          rw [o6 _ (ne_of_none e G5L)]
          exact g5.gh _ _ e
        have d6 : DvAll G5 (vs ++ [v]) (ds ++ [.list (args b)]) := (a5.same g5.gs).app (.cons dv .nil)
        have m6 : ∀ dd ∈ ds ++ [PyData.list (args b)], ∃ b, Bent m b ∧ dd = .list (args b) := fun dd hdd => by
          rcases List.mem_append.mp hdd with hdd | hdd
          · exact a6 dd hdd
          · exact ⟨b, hb, List.mem_singleton.mp hdd⟩
        have g45 : Same G4 G5 := a1.trans g5.gs
        have dS5 := dSG.same g5.gs
        obtain ⟨xs, z, eS5, hz, dz⟩ : ∃ xs z, G5 S = some (.lst xs) ∧ xs[n]? = some z ∧ Dv G5 z (.list ((rowAt m n).map .str)) := by
          cases dS5 with
          | lst e h _ =>
            obtain ⟨z, hz, dz⟩ := h.at r1
            exact ⟨_, z, e, hz, dz⟩
        obtain ⟨aR, rfl, eR⟩ : ∃ aR, z = .ref aR ∧ G5 aR = some (.lst ((rowAt m n).map V.str)) := by
          cases dz with
          | lst e h sm => exact ⟨_, rfl, (Dv.strL (ss := rowAt m n) (.lst e h sm)).1⟩
        refine ⟨_, rfl, _, rfl, S, xs, n, .ref aR, rfl, rfl, SqL.of (s56 _ _ eS5), atI_nat hz, aR, _, rfl, Or.inl (SqL.of (s56 _ _ eR)), _, _, rfl, rfl, _, rfl, ?_⟩
        have e1 : decide ((1 : Int) < (((rowAt m n).map V.str).length : Int)) = decide (1 < (rowAt m n).length) := decide_eq_decide.mpr (by rw [List.length_map]; omega)
        rw [e1]
        by_cases hl : 1 < (rowAt m n).length
        · rw [decide_eq_true hl]
          refine iteT ?_
          obtain ⟨b', hb', eb'⟩ := r4 hl
          refine st_drop (st_bm ?_)
          refine ⟨_, rfl, Or.inl ⟨rfl, _, SqL.of e6⟩, ?_⟩
          refine st_cons ?_
          refine use_D (.list (args b')) s56 (mk_turn rfl rfl dS5 r1 r2 eb') fun v' G7 H7 g7 dv' => ?_
          have G7L : G7 L = none := g7.nn _ _ e6 G5L
          refine ⟨L, vs ++ [v], v', rfl, rfl, g7.hs _ _ e6, Nat.lt_of_le_of_lt (show _ ≤ 11 by rw [List.length_append, a5.len]; simp only [List.length_cons, List.length_nil]; omega) (by decide), ?_⟩
          refine ⟨G7, (vs ++ [v]) ++ [v'], (ds ++ [.list (args b)]) ++ [.list (args b')], _, rfl, g45.trans g7.gs, same_beside g7.gh G7L, G7L, upd_same, (d6.same g7.gs).app (.cons dv' .nil), fun dd hdd => ?_, by simp only [List.length_append, List.length_cons, List.length_nil]; omega⟩
          rcases List.mem_append.mp hdd with hdd | hdd
          · exact m6 dd hdd
          · exact ⟨b', hb', List.mem_singleton.mp hdd⟩
        · rw [decide_eq_false hl]
          refine iteF ?_
          exact ⟨G5, vs ++ [v], ds ++ [.list (args b)], _, rfl, g45, s56, G5L, e6, d6, m6, by simp only [List.length_append, List.length_cons, List.length_nil]; omega⟩
      · rintro σ' H5 ⟨G, vs, ds, y, rfl, a1, a2, a3, a4, a5, a6, a7⟩
        have a7 : ds.length ≤ 8 := a7
        have sH5 : Same H H5 := sH2.trans (sHG.trans (a1.trans a2))
        refine ⟨_, rfl, L, rfl, ⟨_, SqL.of a4⟩, for_seq (H0 := H5) (seqIt_l (SqL.of a4)) (fun i σ' H' => ∃ (y5 y6 : Option V), σ' = [some (.ref d), some (.ref p), some (.ref S), some (.ref L), y, y5, y6, none] ∧ Same H5 H') ⟨none, none, rfl, Same.refl _⟩ (fun i σ' H' q => by obtain ⟨_, _, _, q⟩ := q; exact q) ?_ ?_⟩
        · rintro i x σ' H' hx ⟨y5, y6, rfl, s'⟩
          obtain ⟨dd, hdd, hxd⟩ := (a5.same a2).get hx
          obtain ⟨b, ⟨rb, nb⟩, rfl⟩ := a6 dd (List.mem_of_getElem? hdd)
          have hxd := hxd.same s'
          cases hxd with
          | @lst a xs _ e h6 sm =>
            obtain ⟨v0, ys, rfl, e0, q0⟩ := h6.inv
            obtain ⟨v1, ys, rfl, e1, q1⟩ := q0.inv
            obtain ⟨v2, ys, rfl, e2, q2⟩ := q1.inv
            obtain ⟨v3, ys, rfl, e3, q3⟩ := q2.inv
            obtain ⟨v4, ys, rfl, e4, q4⟩ := q3.inv
            obtain ⟨v5, ys, rfl, e5, q5⟩ := q4.inv
            obtain rfl := q5.inv0
            refine ⟨_, rfl, a, _, 0, v0, rfl, rfl, SqL.of e, atI_nat (j := 0) rfl, _, rfl, a, _, 1, v1, rfl, rfl, SqL.of e, atI_nat (j := 1) rfl, _, rfl, a, _, 2, v2, rfl, rfl, SqL.of e, atI_nat (j := 2) rfl, _, rfl, a, _, 3, v3, rfl, rfl, SqL.of e, atI_nat (j := 3) rfl, _, rfl, a, _, 4, v4, rfl, rfl, SqL.of e, atI_nat (j := 4) rfl, _, rfl, a, _, 5, v5, rfl, rfl, SqL.of e, atI_nat (j := 5) rfl, ?_⟩
            refine fun x dx nx ndx nex => rd_makeX (C := C) (m := b) nx ndx nex rb.good (args_at h6) fun H6 s6 mo => ?_
            have hM6 := MoAt.same (sH5.trans (s'.trans s6)) hM
            refine ⟨_, rfl, _, rfl, rd_eqMod Z mo.mo hM6 rb.can R.can ⟨_, rfl, ?_⟩⟩
            rw [decide_eq_false nb]
            refine iteF ?_
            refine ⟨_, rfl, _, rfl, rd_eqMod Z hM6 mo.mo R.can rb.can ⟨_, rfl, ?_⟩⟩
            rw [decide_eq_false (fun z => nb z.symm)]
            refine iteF ?_
            exact ⟨_, _, rfl, s'.trans s6⟩
        · rintro σ' H6 ⟨y5, y6, rfl, s'⟩
          exact k H6 (sH5.trans s')
end
end My

namespace My
open PySem PySem.Spec PyProof.Rows L2
local macro_rules | `(tactic| walk_at "side") => `(tactic| first | (dsimp only; omega) | exact ⟨by omega, by omega⟩ | exact Or.inl ⟨by omega, by omega⟩ | exact Or.inr ⟨by omega, by omega⟩ | decide)
local macro_rules | `(tactic| walk_at "sq") => `(tactic| first | assumption | exact SqL.of (by assumption) | exact SqT.of (by assumption) | (refine L2.Same.seq (by assumption) ?_; walk_at "sq") | (refine L2.Same.seqT (by assumption) ?_; walk_at "sq") | exact Or.inl (by walk_at "sq") | exact Or.inr (by walk_at "sq"))
local macro_rules | `(tactic| walk_at "1") => `(tactic| first
  | refine ⟨_, rfl, iteT ?_⟩
  | refine ⟨_, rfl, iteF ?_⟩
  | refine ⟨_, rfl, ?_⟩
  | refine ⟨_, _, rfl, rfl, (by walk_at "side"), ?_⟩
  | refine ⟨_, _, rfl, rfl, ?_⟩
  | refine ⟨_, _, _, _, true, rfl, .ty _, .base (.int _), kit_ty (a := "int") (by decide +kernel), ?_⟩
  | refine ⟨_, _, _, _, false, rfl, .ty _, .base (.int _), kit_ty (a := "int") (by decide +kernel), ?_⟩
  | refine ⟨_, _, rfl, (by walk_at "sq"), ?_⟩
  | refine ⟨_, _, _, _, rfl, rfl, (by walk_at "sq"), (by first | rfl | assumption), ?_⟩
  | refine Or.inl ⟨_, _, _, _, rfl, rfl, (by walk_at "sq"), (by first | rfl | assumption), ?_⟩
  | refine Or.inr (Or.inl ⟨_, _, _, _, rfl, rfl, (by walk_at "sq"), (by first | rfl | assumption), ?_⟩)
  | refine ⟨_, _, rfl, Or.inl ⟨(by walk_at "sq"), ?_⟩⟩
  | refine ⟨rfl, ?_⟩
  | refine iteT ?_
  | refine iteF ?_
  | refine ⟨_, _, _, _, _, rfl, (by assumption), (by assumption), (by assumption), (by assumption), ?_⟩
  | refine Or.inl ⟨_, rfl, ?_⟩
  | refine Or.inr ⟨_, rfl, ?_⟩
  | refine ⟨_, _, rfl, (by walk_at "side"), ?_⟩
  | refine ⟨_, _, rfl, ?_⟩)
local macro_rules | `(tactic| walk_at "fld") => `(tactic| skip)
local macro_rules | `(tactic| walk_at "s") => `(tactic| repeat walk_at "1")
local macro_rules | `(tactic| walk_at "size") => `(tactic| first | exact Nat.le_of_ble_eq_true rfl | (simp only [List.length_map, List.length_append, List.length_cons, List.length_nil]; omega))
local macro_rules | `(tactic| walk_at "new") => `(tactic| (first | refine ⟨(by walk_at "size"), fun p hp => ?_⟩ | refine fun p hp => ?_); (generalize hq : upd _ p _ = H1); (obtain ⟨s, e⟩ := new_facts hp hq); clear hq)
open TL
/-- the form of an end -/
def EndF (x : Str) : Prop := nameS x = true ∨ ∃ l o, x = lab l o ∧ nameS l = true ∧ nameS o = true
/-- what a text's module is -/
structure TextDM (m : DM) : Prop where
  R : RightDM m
  F : DMFit m
  ends : ∀ l ∈ m.links, (EndF l.1 ∧ EndF l.2.1) ∧ l.2.2.1 ≤ 9 ∧ l.2.2.2 ≤ 9
/-- signs of words: no space, no new line -/
def wordC (x : Str) : Prop := ∀ c ∈ tl x, c ≠ 10 ∧ c ≠ 32
theorem name_C {x : Str} (h : nameS x = true) : ∀ c ∈ tl x, 97 ≤ c ∧ c ≤ 122 := fun c hc => by
  have h2 := (Bool.and_eq_true_iff.mp (Bool.and_eq_true_iff.mp h).2).2
  have := List.all_eq_true.mp h2 c hc
  unfold isLow at this
  obtain ⟨a, b⟩ := Bool.and_eq_true_iff.mp this
  exact ⟨of_decide_eq_true a, of_decide_eq_true b⟩
theorem name_W {x : Str} (h : nameS x = true) : wordC x := fun c hc => by
  have := name_C h c hc
  omega
theorem end_W {x : Str} (h : EndF x) : wordC x := by
  rcases h with h | ⟨l, o, rfl, hl, ho⟩
  · exact name_W h
  · intro c hc
    unfold lab at hc
    rw [tl_append, tl_append] at hc
    rcases List.mem_append.mp hc with hc | hc
    · rcases List.mem_append.mp hc with hc | hc
      · exact name_W hl c hc
      · have : c ∈ [46] := hc
        have := List.mem_singleton.mp this
        omega
    · exact name_W ho c hc
theorem numS_W (n : Nat) : wordC (numS n) := fun c hc => by
  have := numL_digits n c (by rw [← tl_num n]; exact hc)
  omega
theorem mem_joinL {S : List Nat} {c : Nat} : ∀ {ps : List (List Nat)}, c ∈ joinL S ps → c ∈ S ∨ ∃ p ∈ ps, c ∈ p
  | [], h => by simp [joinL] at h
  | [p], h => Or.inr ⟨p, .head _, h⟩
  | p :: q :: r, h => by
    have h : c ∈ p ++ (S ++ joinL S (q :: r)) := h
    rcases List.mem_append.mp h with h | h
    · exact Or.inr ⟨p, .head _, h⟩
    · rcases List.mem_append.mp h with h | h
      · exact Or.inl h
      · rcases mem_joinL h with h | ⟨x, hx, h⟩
        · exact Or.inl h
        · exact Or.inr ⟨x, .tail _ hx, h⟩
theorem kind_W (l : Ln) : wordC l.kind := by
  cases l <;> (simp only [Ln.kind]; unfold wordC; decide)
/-- a line is told by its words -/
theorem split_ln {l : Ln} (h : ∀ w ∈ l.ws, wordC w) : Txt.split (lnText l) " " = l.kind :: l.ws := by
  have := split_join (y := " ") (s := 32) (S := []) rfl (by decide +kernel) (parts := l.kind :: l.ws) (by simp) (fun p hp q => by
    rcases List.mem_cons.mp hp with rfl | hp
    · exact (kind_W l _ q).2 rfl
    · exact (h p hp _ q).2 rfl)
  exact this
theorem ln_nl {l : Ln} (h : ∀ w ∈ l.ws, wordC w) : 10 ∉ tl (lnText l) := fun q => by
  rw [tl_lnText] at q
  rcases mem_joinL q with q | ⟨p, hp, q⟩
  · have : (10 : Nat) ∈ [32] := q
    simp at this
  · obtain ⟨w, hw, rfl⟩ := List.mem_map.mp hp
    rcases List.mem_cons.mp hw with rfl | hw
    · exact (kind_W l _ q).1 rfl
    · exact (h w hw _ q).1 rfl
theorem split_lns {ls : List Ln} (ne : ls ≠ []) (h : ∀ l ∈ ls, ∀ w ∈ l.ws, wordC w) : Txt.split (Txt.join "\n" (ls.map lnText)) "\n" = ls.map lnText := by
  have := split_join (y := "\n") (s := 10) (S := []) rfl (by decide +kernel) (parts := ls.map lnText) (by simpa using ne) (fun p hp => by
    obtain ⟨l, hl, rfl⟩ := List.mem_map.mp hp
    exact ln_nl (h l hl))
  exact this
/-! ## words that can be compared -/
theorem name_okW {x : Str} (h : nameS x = true) : okW x := by
  refine ⟨okS_name h, ?_⟩
  rw [split_plain (name_point h)]
  exact ⟨by simp, fun y hy => by rw [List.mem_singleton.mp hy]; exact okS_name h⟩
theorem end_okW {x : Str} (h : EndF x) : okW x ∧ endW x = true := by
  rcases h with h | ⟨l, o, rfl, hl, ho⟩
  · refine ⟨name_okW h, ?_⟩
    unfold endW
    rw [split_plain (name_point h)]
    simp [h]
  · have e := split_lab (name_point hl) (name_point ho)
    refine ⟨⟨okS_lab hl ho, ?_⟩, ?_⟩
    · rw [e]
      refine ⟨by simp, fun y hy => ?_⟩
      rcases List.mem_cons.mp hy with rfl | hy
      · exact okS_name hl
      · rw [List.mem_singleton.mp hy]; exact okS_name ho
    · unfold endW
      rw [e]
      simp [hl, ho]
theorem num_facts {n : Nat} (h : n ≤ 9) : okW (numS n) ∧ numL2 3 (numS n).cps.toList = true := by
  have e : tl (numS n) = numL n := tl_num n
  have p : 46 ∉ tl (numS n) := fun q => by
    rw [e] at q
    have := numL_digits n _ q
    omega
  have ok : okS (numS n) = true := by
    refine Bool.and_eq_true_iff.mpr ⟨?_, decide_eq_true (Nat.le_trans (numS_len (by omega)) (by decide))⟩
    rw [← Array.all_toList]
    refine List.all_eq_true.mpr fun c hc => ?_
    have := numL_digits n c (by rw [← e]; exact hc)
    exact decide_eq_true (by omega)
  refine ⟨⟨ok, ?_⟩, ?_⟩
  · rw [split_plain p]
    exact ⟨by simp, fun y hy => by rw [List.mem_singleton.mp hy]; exact ok⟩
  · show numL2 3 (tl (numS n)) = true
    rw [e, numL_lt (by omega)]
    have : ∀ k : Nat, k ≤ 9 → numL2 3 [48 + k] = true := by decide
    exact this n h
theorem num_int (n : Nat) (h : n ≤ 9) : intText? (numS n) = some (n : Int) ∧ (numS n).length ≤ 640 :=
  ⟨int_num (by rw [numL_lt (by omega)]; simp), Nat.le_trans (numS_len (by omega)) (by decide)⟩
/-- a line that is right -/
structure LnOk (l : Ln) : Prop where
  wc : ∀ w ∈ l.ws, wordC w
  ok : ∀ w ∈ l.ws, okW w
  nums : l.nums
  few : l.ws.length ≤ 1000
  right : rightW l.kind l.ws = true
theorem names_all {ws : List Str} (h : ∀ x ∈ ws, nameS x = true) : ws.all nameS = true := List.all_eq_true.mpr h
section
variable {m : DM}
theorem ok_mod {n : Str} (h : nameS n = true) : LnOk (.mod n) := ⟨fun w hw => by rw [List.mem_singleton.mp hw]; exact name_W h, fun w hw => by rw [List.mem_singleton.mp hw]; exact name_okW h, trivial, Nat.le_of_ble_eq_true rfl, by
  show (([n] : List Str).all nameS && decide (([n] : List Str).length = 1)) = true
  rw [names_all (fun x hx => by rw [List.mem_singleton.mp hx]; exact h)]
  rfl⟩
theorem ok_row {k : Str} {ws : List Str} (h : ∀ x ∈ ws, nameS x = true) (ne : ws ≠ []) (k1 : k ≠ "link") (k2 : k ≠ "module") (k3 : k ≠ "use") : rightW k ws = true := by
  unfold rightW
  rw [if_neg k1, if_neg k2, if_neg k3, names_all h, decide_eq_true (List.length_pos_iff.mpr ne)]
  rfl
theorem lns_ok (T : TextDM m) : ∀ l ∈ lnsM m, LnOk l := by
  have R := T.R
  intro l hl
  rcases List.mem_cons.mp hl with rfl | hl
  · exact ok_mod R.name
  · rw [lnsOf_eq] at hl
    rcases List.mem_append.mp hl with hl | hl
    · split at hl
      · cases hl
      · rename_i ne
        rw [List.mem_singleton.mp hl]
        have h := fun x hx => R.nms x (in_inl (m := m) hx)
        exact ⟨fun w hw => name_W (h w hw), fun w hw => name_okW (h w hw), trivial, Nat.le_trans T.F.inl.1 (by decide), ok_row (k := "in") h ne (by decide) (by decide) (by decide)⟩
    rcases List.mem_append.mp hl with hl | hl
    · split at hl
      · cases hl
      · rename_i ne
        rw [List.mem_singleton.mp hl]
        have h := fun x hx => R.nms x (in_out (m := m) hx)
        exact ⟨fun w hw => name_W (h w hw), fun w hw => name_okW (h w hw), trivial, Nat.le_trans T.F.out.1 (by decide), ok_row (k := "out") h ne (by decide) (by decide) (by decide)⟩
    rcases List.mem_append.mp hl with hl | hl
    · split at hl
      · cases hl
      · rename_i ne
        rw [List.mem_singleton.mp hl]
        have h := fun x hx => R.nms x (in_sta (m := m) hx)
        exact ⟨fun w hw => name_W (h w hw), fun w hw => name_okW (h w hw), trivial, Nat.le_trans T.F.sta.1 (by decide), ok_row (k := "at") h ne (by decide) (by decide) (by decide)⟩
    rcases List.mem_append.mp hl with hl | hl
    · obtain ⟨c, hc, rfl⟩ := List.mem_map.mp hl
      have h : ∀ x ∈ [c.1, c.2], nameS x = true := fun x hx => by
        rcases List.mem_cons.mp hx with rfl | hx
        · exact R.nms _ (in_lab hc)
        · rw [List.mem_singleton.mp hx]; exact R.calls c hc
      refine ⟨fun w hw => name_W (h w hw), fun w hw => name_okW (h w hw), trivial, Nat.le_of_ble_eq_true rfl, ?_⟩
      show ([c.1, c.2].all nameS && true) = true
      rw [names_all h]
      rfl
    · obtain ⟨c, hc, rfl⟩ := List.mem_map.mp hl
      obtain ⟨⟨h1, h2⟩, h3, h4⟩ := T.ends c hc
      obtain ⟨o1, e1⟩ := end_okW h1
      obtain ⟨o2, e2⟩ := end_okW h2
      obtain ⟨o3, e3⟩ := num_facts h3
      obtain ⟨o4, e4⟩ := num_facts h4
      have four : ∀ {p : Str → Prop}, p c.1 → p c.2.1 → p (numS c.2.2.1) → p (numS c.2.2.2) → ∀ w ∈ (linkLn c).ws, p w := fun {p} a b d e w hw => by
        have hw : w ∈ [c.1, c.2.1, numS c.2.2.1, numS c.2.2.2] := hw
        simp only [List.mem_cons, List.not_mem_nil, or_false] at hw
        rcases hw with rfl | rfl | rfl | rfl <;> assumption
      refine ⟨four (end_W h1) (end_W h2) (numS_W _) (numS_W _), four o1 o2 o3 o4, ⟨num_int _ h3, num_int _ h4⟩, Nat.le_of_ble_eq_true rfl, ?_⟩
      show (true && (([numS c.2.2.1, numS c.2.2.2].all fun x => numL2 3 x.cps.toList) && [c.1, c.2.1].all endW)) = true
      simp only [List.all_cons, List.all_nil, Bool.and_true, Bool.true_and]
      rw [e1, e2, e3, e4]
      rfl
/-! ## the order of the lines -/
def rank (l : Ln) : Nat := match l with
  | .mod _ => 0
  | .inl _ => 1
  | .out _ => 2
  | .sta _ => 3
  | .use _ _ => 4
  | .link .. => 5
def Fol (l l' : Ln) : Prop := rank l < rank l' ∨ (rank l = rank l' ∧ 4 ≤ rank l)
theorem fol_can {l l' : Ln} (h : Fol l l') : canS l'.kind l.kind = true := by
  unfold Fol at h
  cases l <;> cases l' <;> simp only [rank] at h <;> first | omega | (simp only [Ln.kind]; decide)
theorem pair_same {α : Type} (f : α → Ln) (r : Nat) (h4 : 4 ≤ r) (h : ∀ x, rank (f x) = r) : ∀ xs : List α, (xs.map f).Pairwise Fol
  | [] => .nil
  | x :: xs => List.Pairwise.cons (fun l hl => by
    obtain ⟨y, _, rfl⟩ := List.mem_map.mp hl
    exact Or.inr ⟨by rw [h, h], by rw [h]; exact h4⟩) (pair_same f r h4 h xs)
theorem opt_pair {p : Prop} [Decidable p] (x : Ln) : (if p then [] else [x]).Pairwise Fol := by
  split
  · exact .nil
  · exact .cons (fun l hl => nomatch hl) .nil
theorem opt_mem {p : Prop} [Decidable p] {x l : Ln} (h : l ∈ (if p then [] else [x])) : l = x := by
  split at h
  · cases h
  · exact List.mem_singleton.mp h
theorem lns_pair (m : DM) : (lnsM m).Pairwise Fol := by
  unfold lnsM
  rw [lnsOf_eq]
  have ru : ∀ l ∈ m.calls.map useLn, rank l = 4 := fun l hl => by
    obtain ⟨c, _, rfl⟩ := List.mem_map.mp hl
    rfl
  have rl : ∀ l ∈ m.links.map linkLn, rank l = 5 := fun l hl => by
    obtain ⟨c, _, rfl⟩ := List.mem_map.mp hl
    rfl
  have p1 : (m.calls.map useLn ++ m.links.map linkLn).Pairwise Fol := List.pairwise_append.mpr ⟨pair_same useLn 4 (by decide) (fun _ => rfl) _, pair_same linkLn 5 (by decide) (fun _ => rfl) _, fun a ha b hb => Or.inl (by rw [ru a ha, rl b hb]; decide)⟩
  have r1 : ∀ l ∈ m.calls.map useLn ++ m.links.map linkLn, 4 ≤ rank l := fun l hl => by
    rcases List.mem_append.mp hl with hl | hl
    · rw [ru l hl]; decide
    · rw [rl l hl]; decide
  have p2 : ((if m.sta = [] then [] else [Ln.sta m.sta]) ++ (m.calls.map useLn ++ m.links.map linkLn)).Pairwise Fol := List.pairwise_append.mpr ⟨opt_pair _, p1, fun a ha b hb => Or.inl (by rw [opt_mem ha]; exact r1 b hb)⟩
  have r2 : ∀ l ∈ (if m.sta = [] then [] else [Ln.sta m.sta]) ++ (m.calls.map useLn ++ m.links.map linkLn), 3 ≤ rank l := fun l hl => by
    rcases List.mem_append.mp hl with hl | hl
    · rw [opt_mem hl]; exact Nat.le_of_ble_eq_true rfl
    · exact Nat.le_of_succ_le (r1 l hl)
  have p3 : ((if m.out = [] then [] else [Ln.out m.out]) ++ ((if m.sta = [] then [] else [Ln.sta m.sta]) ++ (m.calls.map useLn ++ m.links.map linkLn))).Pairwise Fol := List.pairwise_append.mpr ⟨opt_pair _, p2, fun a ha b hb => Or.inl (by rw [opt_mem ha]; exact r2 b hb)⟩
  have r3 : ∀ l ∈ (if m.out = [] then [] else [Ln.out m.out]) ++ ((if m.sta = [] then [] else [Ln.sta m.sta]) ++ (m.calls.map useLn ++ m.links.map linkLn)), 2 ≤ rank l := fun l hl => by
    rcases List.mem_append.mp hl with hl | hl
    · rw [opt_mem hl]; exact Nat.le_of_ble_eq_true rfl
    · exact Nat.le_of_succ_le (r2 l hl)
  have p4 := List.pairwise_append.mpr ⟨opt_pair (p := m.inl = []) (Ln.inl m.inl), p3, fun a ha b hb => Or.inl (by rw [opt_mem ha]; exact r3 b hb)⟩
  refine List.Pairwise.cons (fun l hl => Or.inl ?_) p4
  rcases List.mem_append.mp hl with hl | hl
  · rw [opt_mem hl]; exact Nat.le_of_ble_eq_true rfl
  · exact Nat.lt_of_lt_of_le (by decide : 0 < 2) (r3 l hl)
/-! ## what the lines tell together -/
theorem fold_use : ∀ (cs : List (Str × Str)) (x : DM), (cs.map useLn).foldl Ln.put x = { x with calls := x.calls ++ cs }
  | [], x => by simp
  | c :: cs, x => by
    rw [List.map_cons, List.foldl_cons, fold_use cs]
    simp [Ln.put, useLn]
theorem fold_link : ∀ (cs : List (Str × Str × Nat × Nat)) (x : DM), (cs.map linkLn).foldl Ln.put x = { x with links := x.links ++ cs }
  | [], x => by simp
  | c :: cs, x => by
    rw [List.map_cons, List.foldl_cons, fold_link cs]
    simp [Ln.put, linkLn]
theorem fold_all (m : DM) : (lnsOf m).foldl Ln.put (dm0 m.name) = m := by
  rw [lnsOf_eq, List.foldl_append, List.foldl_append, List.foldl_append, List.foldl_append, fold_use, fold_link]
  obtain ⟨n, i, o, s, c, l⟩ := m
  have h1 : (if i = [] then [] else [Ln.inl i]).foldl Ln.put (dm0 n) = { dm0 n with inl := i } := by
    split
    · rename_i e; subst e; rfl
    · simp [Ln.put, dm0]
  have h2 : (if o = [] then [] else [Ln.out o]).foldl Ln.put { dm0 n with inl := i } = { dm0 n with inl := i, out := o } := by
    split
    · rename_i e; subst e; rfl
    · simp [Ln.put, dm0]
  have h3 : (if s = [] then [] else [Ln.sta s]).foldl Ln.put { dm0 n with inl := i, out := o } = { dm0 n with inl := i, out := o, sta := s } := by
    split
    · rename_i e; subst e; rfl
    · simp [Ln.put, dm0]
  dsimp only
  rw [h1, h2, h3]
  simp [dm0]
structure LeDM (a b : DM) : Prop where
  inl : a.inl.length ≤ b.inl.length
  out : a.out.length ≤ b.out.length
  sta : a.sta.length ≤ b.sta.length
  calls : a.calls.length ≤ b.calls.length
  links : a.links.length ≤ b.links.length
theorem put_le (m : DM) (l : Ln) : LeDM m (Ln.put m l) := by
  cases l <;> exact ⟨by simp [Ln.put], by simp [Ln.put], by simp [Ln.put], by simp [Ln.put], by simp [Ln.put]⟩
theorem fold_le : ∀ (ls : List Ln) (m : DM), LeDM m (ls.foldl Ln.put m)
  | [], m => ⟨Nat.le_refl _, Nat.le_refl _, Nat.le_refl _, Nat.le_refl _, Nat.le_refl _⟩
  | l :: ls, m => by
    have a := put_le m l
    have b := fold_le ls (Ln.put m l)
    exact ⟨Nat.le_trans a.inl b.inl, Nat.le_trans a.out b.out, Nat.le_trans a.sta b.sta, Nat.le_trans a.calls b.calls, Nat.le_trans a.links b.links⟩
theorem fold_few {ls : List Ln} {x : DM} (h : DMFew (ls.foldl Ln.put x)) (i : Nat) : DMFew ((ls.take i).foldl Ln.put x) := by
  have e : ls.foldl Ln.put x = (ls.drop i).foldl Ln.put ((ls.take i).foldl Ln.put x) := by rw [← List.foldl_append, List.take_append_drop]
  rw [e] at h
  have q := fold_le (ls.drop i) ((ls.take i).foldl Ln.put x)
  exact ⟨Nat.le_trans q.inl h.inl, Nat.le_trans q.out h.out, Nat.le_trans q.sta h.sta, Nat.le_trans q.calls h.calls, Nat.le_trans q.links h.links⟩
/-- a module's text is read again -/
theorem text_ok (T : TextDM m) : TextOk (textM m) m.name (lnsOf m) := by
  have F := T.F
  have ok := lns_ok T
  have sp : Txt.split (textM m) "\n" = (lnsM m).map lnText := split_lns (by unfold lnsM; simp) fun l hl => (ok l hl).wc
  refine ⟨fun q => ?_, ?_, sp, fun l hl => ⟨split_ln (ok l hl).wc, Nat.le_trans (ln_len F l hl) (by decide)⟩, fun l hl => ⟨(ok l hl).ok, (ok l hl).nums, (ok l hl).few, (ok l hl).right⟩, fun l hl => ?_, fun i l l' h h' => ?_, fun i => fold_few ?_ i, ?_⟩
  · rw [q] at sp
    have e : Txt.split ("" : Str) "\n" = [("" : Str)] := by decide +kernel
    rw [e] at sp
    have e2 : ("" : Str) = lnText (.mod m.name) := (List.cons.inj sp).1
    have e3 := congrArg Str.length e2
    rw [← a_mod, len_app] at e3
    have : ("module " : Str).length = 7 := by decide
    have : ("" : Str).length = 0 := by decide
    omega
  · have := join_len (y := "\n") (ps := (lnsM m).map lnText) (n := 20000) fun p hp => by
      obtain ⟨l, hl, rfl⟩ := List.mem_map.mp hp
      exact ln_len F l hl
    rw [List.length_map, show ("\n" : Str).length = 1 by decide] at this
    have l2 := lns_len F
    have l3 : (20000 + 1) * (lnsM m).length ≤ 20001 * 304 := Nat.mul_le_mul_left _ l2
    exact Nat.le_trans this (Nat.le_trans l3 (by decide))
  · rw [lnsOf_eq] at hl
    rcases List.mem_append.mp hl with hl | hl
    · rw [opt_mem hl]; rfl
    rcases List.mem_append.mp hl with hl | hl
    · rw [opt_mem hl]; rfl
    rcases List.mem_append.mp hl with hl | hl
    · rw [opt_mem hl]; rfl
    rcases List.mem_append.mp hl with hl | hl
    · obtain ⟨c, _, rfl⟩ := List.mem_map.mp hl
      rfl
    · obtain ⟨c, _, rfl⟩ := List.mem_map.mp hl
      rfl
  · have p := lns_pair m
    obtain ⟨hi, e⟩ := List.getElem?_eq_some_iff.mp h
    have h2 : (lnsM m)[i + 1]? = some l' := h'
    obtain ⟨hi2, e2⟩ := List.getElem?_eq_some_iff.mp h2
    have := List.pairwise_iff_getElem.mp p i (i + 1) hi hi2 (by omega)
    rw [e2] at this
    have e : (lnsM m)[i] = l := e
    rw [e] at this
    exact fol_can this
  · rw [fold_all]
    have f1 := F.inl.1
    have f2 := F.out.1
    have f3 := F.sta.1
    have f4 := F.calls.1
    have f5 := F.links.1
    exact ⟨by omega, by omega, by omega, by omega, by omega⟩
  · have := lns_len F
    have e : (lnsM m).length = (lnsOf m).length + 1 := rfl
    omega
end
end My

namespace My
open PySem PySem.Spec PyProof.Rows L2
local macro_rules | `(tactic| walk_at "side") => `(tactic| first | (dsimp only; omega) | exact ⟨by omega, by omega⟩ | exact Or.inl ⟨by omega, by omega⟩ | exact Or.inr ⟨by omega, by omega⟩ | decide)
local macro_rules | `(tactic| walk_at "sq") => `(tactic| first | assumption | exact SqL.of (by assumption) | exact SqT.of (by assumption) | (refine L2.Same.seq (by assumption) ?_; walk_at "sq") | (refine L2.Same.seqT (by assumption) ?_; walk_at "sq") | exact Or.inl (by walk_at "sq") | exact Or.inr (by walk_at "sq"))
local macro_rules | `(tactic| walk_at "1") => `(tactic| first
  | refine ⟨_, rfl, iteT ?_⟩
  | refine ⟨_, rfl, iteF ?_⟩
  | refine ⟨_, rfl, ?_⟩
  | refine ⟨_, _, rfl, rfl, (by walk_at "side"), ?_⟩
  | refine ⟨_, _, rfl, rfl, ?_⟩
  | refine ⟨_, _, _, _, true, rfl, .ty _, .base (.int _), kit_ty (a := "int") (by decide +kernel), ?_⟩
  | refine ⟨_, _, _, _, false, rfl, .ty _, .base (.int _), kit_ty (a := "int") (by decide +kernel), ?_⟩
  | refine ⟨_, _, rfl, (by walk_at "sq"), ?_⟩
  | refine ⟨_, _, _, _, rfl, rfl, (by walk_at "sq"), (by first | rfl | assumption), ?_⟩
  | refine Or.inl ⟨_, _, _, _, rfl, rfl, (by walk_at "sq"), (by first | rfl | assumption), ?_⟩
  | refine Or.inr (Or.inl ⟨_, _, _, _, rfl, rfl, (by walk_at "sq"), (by first | rfl | assumption), ?_⟩)
  | refine ⟨_, _, rfl, Or.inl ⟨(by walk_at "sq"), ?_⟩⟩
  | refine ⟨rfl, ?_⟩
  | refine iteT ?_
  | refine iteF ?_
  | refine ⟨_, _, _, _, _, rfl, (by assumption), (by assumption), (by assumption), (by assumption), ?_⟩
  | refine Or.inl ⟨_, rfl, ?_⟩
  | refine Or.inr ⟨_, rfl, ?_⟩
  | refine ⟨_, _, rfl, (by walk_at "side"), ?_⟩
  | refine ⟨_, _, rfl, ?_⟩)
local macro_rules | `(tactic| walk_at "fld") => `(tactic| skip)
local macro_rules | `(tactic| walk_at "s") => `(tactic| repeat walk_at "1")
local macro_rules | `(tactic| walk_at "size") => `(tactic| first | exact Nat.le_of_ble_eq_true rfl | (simp only [List.length_map, List.length_append, List.length_cons, List.length_nil]; omega))
local macro_rules | `(tactic| walk_at "new") => `(tactic| (first | refine ⟨(by walk_at "size"), fun p hp => ?_⟩ | refine fun p hp => ?_); (generalize hq : upd _ p _ = H1); (obtain ⟨s, e⟩ := new_facts hp hq); clear hq)
open TL
/-- tuples and objects are kept -/
structure KeepTI (H H' : Hp) : Prop where
  tup : ∀ (b : Addr) (ys : List V), H b = some (.tup ys) → H' b = some (.tup ys)
  ins : ∀ (b C dx : Addr) (fs : List (Str × V)), H b = some (.ins C dx fs) → H' b = some (.ins C dx fs)
theorem KeepTI.of {H H' : Hp} (s : Same H H') : KeepTI H H' := ⟨fun b ys e => s _ _ e, fun b C dx fs e => s _ _ e⟩
theorem KeepTI.trans {H H1 H2 : Hp} (a : KeepTI H H1) (b : KeepTI H1 H2) : KeepTI H H2 := ⟨fun c ys e => b.tup c ys (a.tup c ys e), fun c C dx fs e => b.ins c C dx fs (a.ins c C dx fs e)⟩
theorem KeepTI.upd {H : Hp} {a : Addr} {xs : List V} {o : HO} (e : H a = some (.lst xs)) : KeepTI H (upd H a o) :=
  ⟨fun b ys q => by rw [upd_ne (fun z => by rw [z, e] at q; cases q)]; exact q, fun b C dx fs q => by rw [upd_ne (fun z => by rw [z, e] at q; cases q)]; exact q⟩
/-- data of texts and numbers in tuples -/
theorem flat_keep {H H' : Hp} (k : KeepTI H H') : ∀ {ds : List PyData} {vs : List V}, (∀ y ∈ ds, (∃ s, y = .str s) ∨ ∃ i, y = .int i) → DvAll H vs ds → DvAll H' vs ds
  | [], vs, _, h => by
    rw [h.inv0]
    exact .nil
  | y :: ds, vs, n, h => by
    obtain ⟨z, zs, rfl, hz, ht⟩ := h.inv
    refine .cons ?_ (flat_keep k (fun y hy => n y (.tail _ hy)) ht)
    rcases n y (.head _) with ⟨s, rfl⟩ | ⟨i, rfl⟩
    · cases hz with
      | str q => exact .str q
    · cases hz
      exact .int _
theorem tupS_keep {H H' : Hp} {v : V} {ss : List Str} (k : KeepTI H H') (h : Dv H v (tupS ss)) : Dv H' v (tupS ss) := by
  cases h with
  | tup e h sm => exact .tup (k.tup _ _ e) (flat_keep k (fun y hy => by
      obtain ⟨s, _, rfl⟩ := List.mem_map.mp hy
      exact Or.inl ⟨s, rfl⟩) h) sm
theorem rows_keep {α : Type} {f : α → List PyData} {H H' : Hp} (k : KeepTI H H') (hf : ∀ a, ∀ y ∈ f a, (∃ s, y = .str s) ∨ ∃ i, y = .int i) : ∀ {l : List α} {vs : List V}, DvAll H vs (l.map fun a => .tuple (f a)) → DvAll H' vs (l.map fun a => .tuple (f a))
  | [], vs, h => by
    rw [h.inv0]
    exact .nil
  | a :: l, vs, h => by
    obtain ⟨z, zs, rfl, hz, ht⟩ := h.inv
    refine .cons ?_ (rows_keep k hf ht)
    cases hz with
    | tup e hh sm => exact .tup (k.tup _ _ e) (flat_keep k (hf a) hh) sm
theorem links_keep {H H' : Hp} {v : V} {l : List (Str × Str × Nat × Nat)} (k : KeepTI H H') (h : Dv H v (linksT l)) : Dv H' v (linksT l) := by
  cases h with
  | tup e h sm => exact .tup (k.tup _ _ e) (rows_keep (f := fun l : Str × Str × Nat × Nat => [.str l.1, .str l.2.1, .int (l.2.2.1 : Nat), .int (l.2.2.2 : Nat)]) k (fun a y hy => by
      simp only [List.mem_cons, List.not_mem_nil, or_false] at hy
      rcases hy with rfl | rfl | rfl | rfl
      · exact Or.inl ⟨_, rfl⟩
      · exact Or.inl ⟨_, rfl⟩
      · exact Or.inr ⟨_, rfl⟩
      · exact Or.inr ⟨_, rfl⟩) h) sm
theorem calls_keep {H H' : Hp} {v : V} {l : List (Str × Str)} (k : KeepTI H H') (h : Dv H v (callsT l)) : Dv H' v (callsT l) := by
  cases h with
  | tup e h sm => exact .tup (k.tup _ _ e) (rows_keep (f := fun l : Str × Str => [.str l.1, .str l.2]) k (fun a y hy => by
      simp only [List.mem_cons, List.not_mem_nil, or_false] at hy
      rcases hy with rfl | rfl
      · exact Or.inl ⟨_, rfl⟩
      · exact Or.inl ⟨_, rfl⟩) h) sm
theorem MoDv.keep {C p : Addr} {H H' : Hp} {m : DM} (k : KeepTI H H') (h : MoDv C H p m) : MoDv C H' p m := by
  obtain ⟨dx, t1, t2, t3, t4, t5, e, g1, g2, g3, g4, g5⟩ := h
  exact ⟨dx, t1, t2, t3, t4, t5, k.ins _ _ _ _ e, tupS_keep k g1, tupS_keep k g2, tupS_keep k g3, links_keep k g4, calls_keep k g5⟩
/-! ## drawn modules and their texts -/
theorem end_form {m : DM} {ns : List Str} {x : Str} (h : EndIs m ns x) : EndF x := by
  cases h with
  | plain h n => exact Or.inl n
  | call c o hc n no e => exact Or.inr ⟨c.1, o, e, n, no⟩
theorem name_len {x : Str} (h : nameS x = true) : x.length ≤ 5 := of_decide_eq_true (Bool.and_eq_true_iff.mp (Bool.and_eq_true_iff.mp h).2).1
theorem end_len {x : Str} (h : EndF x) : x.length ≤ 100 := by
  rcases h with h | ⟨l, o, rfl, hl, ho⟩
  · exact Nat.le_trans (name_len h) (by decide)
  · rw [lab_len]
    have := name_len hl
    have := name_len ho
    omega
theorem text_dm {ms : List DM} {m : DM} (M : ∀ m' ∈ ms, DMBase m') (O : DMOk ms m) : TextDM m := by
  have R := right_of M O
  have B := O.base
  have ends : ∀ l ∈ m.links, (EndF l.1 ∧ EndF l.2.1) ∧ l.2.2.1 ≤ 9 ∧ l.2.2.2 ≤ 9 := fun l hl => by
    obtain ⟨h1, h2, h3, h4, _⟩ := O.links l hl
    exact ⟨⟨end_form (beg_is B M h1), end_form (goe_is B M h2)⟩, by omega, h4⟩
  have nl : ∀ x ∈ namesOf m, x.length ≤ 100 := fun x hx => Nat.le_trans (name_len (R.nms x hx)) (by decide)
  have b1 := B.inl
  have b2 := B.out
  have b3 := B.sta
  have b4 := B.few
  have b5 := O.lks
  refine ⟨R, ⟨Nat.le_trans (name_len R.name) (by decide), ⟨by omega, fun x hx => nl x (in_inl hx)⟩, ⟨by omega, fun x hx => nl x (in_out hx)⟩, ⟨by omega, fun x hx => nl x (in_sta hx)⟩, ⟨by omega, fun c hc => ⟨nl _ (in_lab hc), Nat.le_trans (name_len (R.calls c hc)) (by decide)⟩⟩, ⟨by omega, fun l hl => ?_⟩⟩, ends⟩
  obtain ⟨⟨e1, e2⟩, e3, e4⟩ := ends l hl
  exact ⟨end_len e1, end_len e2, by omega, by omega⟩
theorem numS_inj {a b : Nat} (h : numS a = numS b) : a = b := numL_inj (by rw [← tl_num a, ← tl_num b]; exact congrArg tl h)
/-- a line's numbers are its words -/
def LnNum : Ln → Prop
  | .link _ _ wa wb a b => wa = numS a ∧ wb = numS b
  | _ => True
theorem ln_inj {l l' : Ln} (h : LnNum l) (h' : LnNum l') (k : l.kind = l'.kind) (w : l.ws = l'.ws) : l = l' := by
  cases l <;> cases l' <;> first
    | (exfalso; revert k; simp only [Ln.kind]; decide)
    | (simp only [Ln.ws] at w; subst w; rfl)
    | (simp only [Ln.ws, List.cons.injEq, and_true] at w; obtain ⟨rfl, rfl⟩ := w; rfl)
    | (simp only [Ln.ws, List.cons.injEq, and_true] at w; subst w; rfl)
    | (simp only [Ln.ws, List.cons.injEq, and_true] at w
       obtain ⟨w1, w2, w3, w4⟩ := w
       obtain ⟨h1, h2⟩ := h
       obtain ⟨h3, h4⟩ := h'
       have a := numS_inj (h1.symm.trans (w3.trans h3))
       have b := numS_inj (h2.symm.trans (w4.trans h4))
       subst w1 w2 w3 w4 a b
       rfl)
theorem lns_num (m : DM) : ∀ l ∈ lnsM m, LnNum l := by
  intro l hl
  rcases List.mem_cons.mp hl with rfl | hl
  · trivial
  · rw [lnsOf_eq] at hl
    rcases List.mem_append.mp hl with hl | hl
    · rw [opt_mem hl]; trivial
    rcases List.mem_append.mp hl with hl | hl
    · rw [opt_mem hl]; trivial
    rcases List.mem_append.mp hl with hl | hl
    · rw [opt_mem hl]; trivial
    rcases List.mem_append.mp hl with hl | hl
    · obtain ⟨c, _, rfl⟩ := List.mem_map.mp hl
      trivial
    · obtain ⟨c, _, rfl⟩ := List.mem_map.mp hl
      exact ⟨rfl, rfl⟩
theorem map_inj_on {ls ls' : List Ln} (h : ∀ l ∈ ls, ∀ l' ∈ ls', lnText l = lnText l' → l = l') (e : ls.map lnText = ls'.map lnText) : ls = ls' := by
  induction ls generalizing ls' with
  | nil =>
    cases ls' with
    | nil => rfl
    | cons => cases e
  | cons l ls ih =>
    cases ls' with
    | nil => cases e
    | cons l' ls' =>
      obtain ⟨e1, e2⟩ := List.cons.inj e
      rw [h l (.head _) l' (.head _) e1, ih (fun a ha b hb => h a (.tail _ ha) b (.tail _ hb)) e2]
/-- texts tell modules apart -/
theorem text_inj {m m' : DM} (T : TextDM m) (T' : TextDM m') (h : textM m = textM m') : m = m' := by
  have s1 := (text_ok T).split
  have s2 := (text_ok T').split
  rw [h] at s1
  have e : (lnsM m).map lnText = (lnsM m').map lnText := s1.symm.trans s2
  have e2 : lnsM m = lnsM m' := map_inj_on (fun l hl l' hl' q => by
    have a := split_ln (lns_ok T l hl).wc
    have b := split_ln (lns_ok T' l' hl').wc
    rw [q] at a
    obtain ⟨q1, q2⟩ := List.cons.inj (a.symm.trans b)
    exact ln_inj (lns_num m l hl) (lns_num m' l' hl') q1 q2) e
  have f1 := fold_all m
  have f2 := fold_all m'
  obtain ⟨q1, q2⟩ := List.cons.inj (show Ln.mod m.name :: lnsOf m = Ln.mod m'.name :: lnsOf m' from e2)
  have q1 : m.name = m'.name := by injection q1
  rw [q1, q2] at f1
  exact f1.symm.trans f2
theorem text_dec {m m' : DM} (T : TextDM m) (T' : TextDM m') : decide (textM m = textM m') = decide (m = m') := decide_eq_decide.mpr ⟨text_inj T T', fun h => by rw [h]⟩
/-- str of a module -/
structure StrM (P : Program) (w : World) (K : PySem.W.Frag) (mg : Str → Option Value) (base : Heap) (C : Addr) : Prop where
  ex : ∃ f fd, FnOk P w K mg base CX0 2 f fd ["self"] (spTextOf K C) ∧ PySem.W.findIn K (.ref C) "__str__" = some (some (.ref f)) ∧ PySem.W.isFn K (.ref f) = true ∧ Binds K fd ["self"] []
theorem call_strM {X : Cx} {C : Addr} (O : StrM X.prog X.w X.K X.mg X.base C) (hr : Room 4 X.A) : CallR X (.type "str") (rStrOwn C (spTextOf X.K C) E0) := by
  obtain ⟨f, fd, F, h1, h2, h3⟩ := O.ex
  exact call_strOwn ⟨⟨f, fd, _, F, h1, h2, h3⟩, pass0⟩ hr
theorem rd_strM {K : PySem.W.Frag} {C p : Addr} {H : Hp} {m : DM} {Q : VK} (h : MoDv C H p m) (F : DMFit m) (k : ∀ H', Same H H' → Q (.str (textM m)) H') : rStrOwn C (spTextOf K C) E0 [.ref p] H Q := by
  obtain ⟨dx, t1, t2, t3, t4, t5, e, _⟩ := id h
  exact ⟨p, dx, _, rfl, e, p, m, rfl, h.mo, F, fun H' s => ⟨_, rfl, k H' s⟩⟩
end My

namespace My
open PySem PySem.Spec PyProof.Rows L2
local macro_rules | `(tactic| walk_at "side") => `(tactic| first | (dsimp only; omega) | exact ⟨by omega, by omega⟩ | exact Or.inl ⟨by omega, by omega⟩ | exact Or.inr ⟨by omega, by omega⟩ | decide)
local macro_rules | `(tactic| walk_at "sq") => `(tactic| first | assumption | exact SqL.of (by assumption) | exact SqT.of (by assumption) | (refine L2.Same.seq (by assumption) ?_; walk_at "sq") | (refine L2.Same.seqT (by assumption) ?_; walk_at "sq") | exact Or.inl (by walk_at "sq") | exact Or.inr (by walk_at "sq"))
local macro_rules | `(tactic| walk_at "1") => `(tactic| first
  | refine ⟨_, rfl, iteT ?_⟩
  | refine ⟨_, rfl, iteF ?_⟩
  | refine ⟨_, rfl, ?_⟩
  | refine ⟨_, _, rfl, rfl, (by walk_at "side"), ?_⟩
  | refine ⟨_, _, rfl, rfl, ?_⟩
  | refine ⟨_, _, _, _, true, rfl, .ty _, .base (.int _), kit_ty (a := "int") (by decide +kernel), ?_⟩
  | refine ⟨_, _, _, _, false, rfl, .ty _, .base (.int _), kit_ty (a := "int") (by decide +kernel), ?_⟩
  | refine ⟨_, _, rfl, (by walk_at "sq"), ?_⟩
  | refine ⟨_, _, _, _, rfl, rfl, (by walk_at "sq"), (by first | rfl | assumption), ?_⟩
  | refine Or.inl ⟨_, _, _, _, rfl, rfl, (by walk_at "sq"), (by first | rfl | assumption), ?_⟩
  | refine Or.inr (Or.inl ⟨_, _, _, _, rfl, rfl, (by walk_at "sq"), (by first | rfl | assumption), ?_⟩)
  | refine ⟨_, _, rfl, Or.inl ⟨(by walk_at "sq"), ?_⟩⟩
  | refine ⟨rfl, ?_⟩
  | refine iteT ?_
  | refine iteF ?_
  | refine ⟨_, _, _, _, _, rfl, (by assumption), (by assumption), (by assumption), (by assumption), ?_⟩
  | refine Or.inl ⟨_, rfl, ?_⟩
  | refine Or.inr ⟨_, rfl, ?_⟩
  | refine ⟨_, _, rfl, (by walk_at "side"), ?_⟩
  | refine ⟨_, _, rfl, ?_⟩)
local macro_rules | `(tactic| walk_at "fld") => `(tactic| skip)
local macro_rules | `(tactic| walk_at "s") => `(tactic| repeat walk_at "1")
local macro_rules | `(tactic| walk_at "size") => `(tactic| first | exact Nat.le_of_ble_eq_true rfl | (simp only [List.length_map, List.length_append, List.length_cons, List.length_nil]; omega))
local macro_rules | `(tactic| walk_at "new") => `(tactic| (first | refine ⟨(by walk_at "size"), fun p hp => ?_⟩ | refine fun p hp => ?_); (generalize hq : upd _ p _ = H1); (obtain ⟨s, e⟩ := new_facts hp hq); clear hq)
theorem ps_pre {X : Cx} {st : Stmt} {t u : TS} (h : PS X st t) (i : ∀ D σ H, u D σ H → t D σ H) : PS X st u := ⟨fun pins s σ H D I q => h.run pins s σ H D I (i D σ H q)⟩
/-- list(xs) -/
def rListN (K : PySem.W.Frag) : List V → Hp → VK → Prop := fun xs H Q => ∃ p ys, xs = [.ref p] ∧ (SqL K H p ys ∨ SqT K H p ys) ∧ ∀ l, H l = none → Q (.ref l) (upd H l (.lst ys))
theorem call_listN {X : Cx} : CallR X (.type "list") (rListN X.K) := call_list_of
def words5 : List Str := ["inlets", "outlets", "stations", "links", "calls"]
def rowsL (m : DM) : List (List PyData) := [m.inl.map .str, m.out.map .str, m.sta.map .str, m.links.map linkD, m.calls.map callD]
theorem ModF.row {G : Hp} {v : V} {m : DM} (h : ModF G v m) : ∃ d kvs, v = .ref d ∧ G d = some (.dK kvs) ∧ valV kvs (kS "name") = some (.str m.name) ∧
    ∀ (i : Nat) (y : Str), words5[i]? = some y → ∃ a xs ds, valV kvs (kS y) = some (.ref a) ∧ (rowsL m)[i]? = some ds ∧ G a = some (.lst xs) ∧ DvAll G xs ds ∧ ds.length ≤ 2000 := by
  obtain ⟨d, kvs, a1, a2, a3, a4, a5, e, ed, h0, h1, h2, h3, h4, h5, g1, g2, g3, g4, g5⟩ := h
  have open_ : ∀ {a : Addr} {ds : List PyData}, Dv G (.ref a) (.list ds) → ∃ xs, G a = some (.lst xs) ∧ DvAll G xs ds ∧ ds.length ≤ 2000 := fun h => by
    cases h with
    | lst e h sm => exact ⟨_, e, h, sm⟩
  refine ⟨d, kvs, e, ed, h0, fun i y hy => ?_⟩
  match i, hy with
  | 0, hy =>
    obtain rfl := Option.some.inj (show some ("inlets" : Str) = some y from hy)
    obtain ⟨xs, q1, q2, q3⟩ := open_ g1
    exact ⟨a1, xs, _, h1, rfl, q1, q2, q3⟩
  | 1, hy =>
    obtain rfl := Option.some.inj (show some ("outlets" : Str) = some y from hy)
    obtain ⟨xs, q1, q2, q3⟩ := open_ g2
    exact ⟨a2, xs, _, h2, rfl, q1, q2, q3⟩
  | 2, hy =>
    obtain rfl := Option.some.inj (show some ("stations" : Str) = some y from hy)
    obtain ⟨xs, q1, q2, q3⟩ := open_ g3
    exact ⟨a3, xs, _, h3, rfl, q1, q2, q3⟩
  | 3, hy =>
    obtain rfl := Option.some.inj (show some ("links" : Str) = some y from hy)
    obtain ⟨xs, q1, q2, q3⟩ := open_ g4
    exact ⟨a4, xs, _, h4, rfl, q1, q2, q3⟩
  | 4, hy =>
    obtain rfl := Option.some.inj (show some ("calls" : Str) = some y from hy)
    obtain ⟨xs, q1, q2, q3⟩ := open_ g5
    exact ⟨a5, xs, _, h5, rfl, q1, q2, q3⟩
  | i + 5, hy => exact absurd hy (by show ¬ (none = some y); simp)
def forBody (s : Stmt) : List Stmt := match s with
  | .For _ _ b _ _ => b
  | _ => []
def nth (l : List Stmt) (i : Nat) : Stmt := l.getD i (.Pass ⟨0, 0, 0, 0⟩)
/-- five things made of the rows -/
def MadeOf (mk : List V → HO) (H0 G H : Hp) (rows : List (List PyData)) (zs : List V) : Prop := zs.length = rows.length ∧ ∀ (j : Nat) (z : V), zs[j]? = some z → ∃ l xs ds, z = .ref l ∧ rows[j]? = some ds ∧ H l = some (mk xs) ∧ DvAll G xs ds ∧ ds.length ≤ 2000 ∧ H0 l = none
theorem MadeOf.same {mk : List V → HO} {H0 G H H' : Hp} {rows : List (List PyData)} {zs : List V} (s : Same H H') (h : MadeOf mk H0 G H rows zs) : MadeOf mk H0 G H' rows zs := ⟨h.1, fun j z hz => by
  obtain ⟨l, xs, ds, e, q1, q2, q3⟩ := h.2 j z hz
  exact ⟨l, xs, ds, e, q1, s _ _ q2, q3⟩⟩
abbrev lawN : List Str := ["script", "k", "box", "kept", "turn", "module", "lists", "made", "one", "due", "turned", "text", "word", "other", "mate"]
section
variable {P : Program} {w : World} {K : PySem.W.Frag} {mg : Str → Option Value} {base : Heap} {C : Addr}
abbrev s_law : Stmt := topS 62
theorem sc_law : FnScope ["script", "k", "box", "kept", "turn", "module", "lists", "made", "one", "due", "turned", "text", "word", "other", "mate"] ["script"] (defScope s_law) := ⟨rfl, rfl, rfl, by decide +kernel, rfl, by decide +kernel, by decide +kernel⟩
abbrev modBody : List Stmt := forBody (nth (forBody (nth (forBody (nth (defBody s_law) 0)) 2)) 0)
/-- lists = [list(module[word]) for word in ..] -/
def tLists : TS := fun D σ H => ∃ (v : V) (G : Hp) (m : DM), σ[5]? = some (some v) ∧ σ[12]? = some none ∧ Same G H ∧ ModF G v m ∧ (∀ x, wipe ((wipe σ [12]).set 12 (some x)) [12] = wipe σ [12]) ∧ (∀ x, ((wipe σ [12]).set 12 (some x))[5]? = some (some v) ∧ ((wipe σ [12]).set 12 (some x))[12]? = some (some x)) ∧
  ∀ S zs H', Same H H' → H S = none → H' S = some (.lst zs) → MadeOf HO.lst H G H' (rowsL m) zs → (∀ z ∈ zs, z ≠ .ref S) → D.nx (σ.set 6 (some (.ref S))) H'
set_option maxHeartbeats 8000000 in
theorem blk_lists {fa : Addr} {cdv : Value} {A : Around} {outer : List Env} {s : Shared} {H0 : Hp} {E : XK} (T : Txt mg) (hr : Room 11 (A.deeper (envOfC "law" (defScope s_law) s.heap.objs.size fa cdv))) :
    PS (cxOf CX0 P w K mg base ["script", "k", "box", "kept", "turn", "module", "lists", "made", "one", "due", "turned", "text", "word", "other", "mate"] "law" (defScope s_law) fa cdv A outer s H0 E).nox (nth modBody 0) tLists := by
  have hu := hu_of hr
  refine ps_pre (ps_setLc (i := 6) (own := [("word", 12)]) (g := gName 12) (te := tCB (rListN K) (tCons (tDGet (tVar 5) (tVar 12)) tNil)) (tt := tYes) rfl sc_law.nd rfl rfl (sw_true rfl rfl rfl (by decide +kernel)) (pi_tup (pe_tup (pa_cons pe_str (pa_cons pe_str (pa_cons pe_str (pa_cons pe_str (pa_cons pe_str pa_nil))))))) (blkOk_by (own := [("word", 12)]) (N := ["script", "k", "box", "kept", "turn", "module", "lists", "made", "one", "due", "turned", "text", "word", "other", "mate"]) (sc := defScope s_law) (by decide +kernel)) (fun _ _ _ _ _ => (pg_name (i := 12) sc_law.nd rfl (Or.inl rfl))) (fun _ _ _ _ _ => pts_nil) (fun _ _ _ _ _ => (pe_callTy call_listN (by rfl) T.list (by decide +kernel) (pa_cons (pe_dget hu (pv 5) (pv 12) (fun _ _ => rfl)) pa_nil)))) fun D σ H h => ?_
  obtain ⟨v, G, m, hv, h12, sG, hF, hw, hx, k⟩ := h
  obtain ⟨d, kvs, rfl, ed, w0, row⟩ := hF.row
  refine ⟨Nat.le_of_ble_eq_true rfl, fun pw nw => ?_⟩
  generalize hq : upd H pw _ = H1
  obtain ⟨s1, ew⟩ := new_facts nw hq
  clear hq
  have ew : H1 pw = some (.tup (words5.map V.str)) := ew
  refine ⟨pw, rfl, ⟨_, SqT.of ew⟩, fun S nS => lc_seq (seqIt_t (SqT.of ew)) (fun i H' => Same H1 H' ∧ ∃ zs, H' S = some (.lst zs) ∧ MadeOf HO.lst H G H' ((rowsL m).take i) zs ∧ ∀ z ∈ zs, z ≠ .ref S) ⟨same_upd nS, [], upd_same, ⟨rfl, fun j z hz => nomatch hz⟩, fun z hz => nomatch hz⟩ (fun i H' q => q.1) ?_ ?_⟩
  · rintro i x H' hxi ⟨s2, zs, eS, hz, hne⟩
    rw [List.getElem?_map] at hxi
    cases hy : words5[i]? with
    | none => rw [hy] at hxi; cases hxi
    | some y =>
      rw [hy] at hxi
      obtain rfl := Option.some.inj (show some (V.str y) = some x from hxi)
      obtain ⟨a, xs, ds, q1, q2, q3, q4, q5⟩ := row i y hy
      have hi : i < 5 := (List.getElem?_eq_some_iff.mp hy).1
      have sGH := (sG.trans s1).trans s2
      have lz : zs.length = i := by rw [hz.1, List.length_take]; show min i 5 = i; omega
      refine ⟨hw _, _, (hx _).1, _, (hx _).2, d, _, rfl, dget_s (sGH _ _ ed) q1, a, xs, rfl, Or.inl (SqL.of (sGH _ _ q3)), fun l nl => ?_⟩
      have nS' : S ≠ l := ne_of_none eS nl
      refine ⟨zs, by rw [upd_ne nS']; exact eS, by rw [lz]; exact Nat.lt_of_le_of_lt (show i ≤ 5 by omega) (by decide), ?_, zs ++ [.ref l], upd_same, ⟨?_, fun j z hj => ?_⟩, fun z hzm => ?_⟩
      · exact (s2.trans (same_upd nl)).upd1 nS
      · rw [List.length_append, lz, List.length_take]
        show i + 1 = min (i + 1) 5
        omega
      · rw [List.take_add_one, q2]
        rcases Nat.lt_or_ge j zs.length with hlt | hge
        · rw [List.getElem?_append_left hlt] at hj
          obtain ⟨l', xs', ds', e', r1, r2, r3⟩ := hz.2 j z hj
          have n1 : l' ≠ S := fun q => hne z (List.mem_of_getElem? hj) (by rw [e', q])
          have n2 : l' ≠ l := ne_of_none r2 nl
          refine ⟨l', xs', ds', e', ?_, by rw [upd_ne n1, upd_ne n2]; exact r2, r3⟩
          have hjl : j < ((rowsL m).take i).length := (List.getElem?_eq_some_iff.mp r1).1
          rw [List.getElem?_append_left hjl]
          exact r1
        · rw [List.getElem?_append_right hge] at hj
          have ej : j - zs.length = 0 := by
            have := (List.getElem?_eq_some_iff.mp hj).1
            simp at this
            omega
          rw [ej] at hj
          cases hj
          have jl : j = i := by omega
          refine ⟨l, xs, ds, rfl, ?_, by rw [upd_ne nS'.symm, upd_same], q4, q5, (s1.trans s2).free nl⟩
          have ll : ((rowsL m).take i).length = i := by rw [← hz.1]; exact lz
          rw [jl, List.getElem?_append_right (by rw [ll]; exact Nat.le_refl _), ll]
          simp
      · rcases List.mem_append.mp hzm with hzm | hzm
        · exact hne z hzm
        · rw [List.mem_singleton.mp hzm]
          exact fun q => nS' (by injection q with q; exact q.symm)
  · rintro H2 ⟨s2, zs, eS, hz, hn⟩
    exact k S zs H2 (s1.trans s2) (s1.free nS) eS hz hn
end
end My

namespace My
open PySem PySem.Spec PyProof.Rows L2
local macro_rules | `(tactic| walk_at "side") => `(tactic| first | (dsimp only; omega) | exact ⟨by omega, by omega⟩ | exact Or.inl ⟨by omega, by omega⟩ | exact Or.inr ⟨by omega, by omega⟩ | decide)
local macro_rules | `(tactic| walk_at "sq") => `(tactic| first | assumption | exact SqL.of (by assumption) | exact SqT.of (by assumption) | (refine L2.Same.seq (by assumption) ?_; walk_at "sq") | (refine L2.Same.seqT (by assumption) ?_; walk_at "sq") | exact Or.inl (by walk_at "sq") | exact Or.inr (by walk_at "sq"))
local macro_rules | `(tactic| walk_at "1") => `(tactic| first
  | refine ⟨_, rfl, iteT ?_⟩
  | refine ⟨_, rfl, iteF ?_⟩
  | refine ⟨_, rfl, ?_⟩
  | refine ⟨_, _, rfl, rfl, (by walk_at "side"), ?_⟩
  | refine ⟨_, _, rfl, rfl, ?_⟩
  | refine ⟨_, _, _, _, true, rfl, .ty _, .base (.int _), kit_ty (a := "int") (by decide +kernel), ?_⟩
  | refine ⟨_, _, _, _, false, rfl, .ty _, .base (.int _), kit_ty (a := "int") (by decide +kernel), ?_⟩
  | refine ⟨_, _, rfl, (by walk_at "sq"), ?_⟩
  | refine ⟨_, _, _, _, rfl, rfl, (by walk_at "sq"), (by first | rfl | assumption), ?_⟩
  | refine Or.inl ⟨_, _, _, _, rfl, rfl, (by walk_at "sq"), (by first | rfl | assumption), ?_⟩
  | refine Or.inr (Or.inl ⟨_, _, _, _, rfl, rfl, (by walk_at "sq"), (by first | rfl | assumption), ?_⟩)
  | refine ⟨_, _, rfl, Or.inl ⟨(by walk_at "sq"), ?_⟩⟩
  | refine ⟨rfl, ?_⟩
  | refine iteT ?_
  | refine iteF ?_
  | refine ⟨_, _, _, _, _, rfl, (by assumption), (by assumption), (by assumption), (by assumption), ?_⟩
  | refine Or.inl ⟨_, rfl, ?_⟩
  | refine Or.inr ⟨_, rfl, ?_⟩
  | refine ⟨_, _, rfl, (by walk_at "side"), ?_⟩
  | refine ⟨_, _, rfl, ?_⟩)
local macro_rules | `(tactic| walk_at "fld") => `(tactic| skip)
local macro_rules | `(tactic| walk_at "s") => `(tactic| repeat walk_at "1")
local macro_rules | `(tactic| walk_at "size") => `(tactic| first | exact Nat.le_of_ble_eq_true rfl | (simp only [List.length_map, List.length_append, List.length_cons, List.length_nil]; omega))
local macro_rules | `(tactic| walk_at "new") => `(tactic| (first | refine ⟨(by walk_at "size"), fun p hp => ?_⟩ | refine fun p hp => ?_); (generalize hq : upd _ p _ = H1); (obtain ⟨s, e⟩ := new_facts hp hq); clear hq)
section
variable {P : Program} {w : World} {K : PySem.W.Frag} {mg : Str → Option Value} {base : Heap} {C : Addr}
/-- due = [tuple(module[word]) for word in ..] -/
def tDue : TS := fun D σ H => ∃ (v : V) (G : Hp) (m : DM), σ[5]? = some (some v) ∧ σ[12]? = some none ∧ Same G H ∧ ModF G v m ∧ (∀ x, wipe ((wipe σ [12]).set 12 (some x)) [12] = wipe σ [12]) ∧ (∀ x, ((wipe σ [12]).set 12 (some x))[5]? = some (some v) ∧ ((wipe σ [12]).set 12 (some x))[12]? = some (some x)) ∧
  ∀ S zs H', Same H H' → H S = none → H' S = some (.lst zs) → MadeOf HO.tup H G H' (rowsL m) zs → (∀ z ∈ zs, z ≠ .ref S) → D.nx (σ.set 9 (some (.ref S))) H'
set_option maxHeartbeats 8000000 in
theorem blk_due {fa : Addr} {cdv : Value} {A : Around} {outer : List Env} {s : Shared} {H0 : Hp} {E : XK} (T : Txt mg) (hr : Room 11 (A.deeper (envOfC "law" (defScope s_law) s.heap.objs.size fa cdv))) :
    PS (cxOf CX0 P w K mg base ["script", "k", "box", "kept", "turn", "module", "lists", "made", "one", "due", "turned", "text", "word", "other", "mate"] "law" (defScope s_law) fa cdv A outer s H0 E).nox (nth modBody 3) tDue := by
  have hu := hu_of hr
  refine ps_pre (ps_setLc (i := 9) (own := [("word", 12)]) (g := gName 12) (te := tCB (rTupOf K) (tCons (tDGet (tVar 5) (tVar 12)) tNil)) (tt := tYes) rfl sc_law.nd rfl rfl (sw_true rfl rfl rfl (by decide +kernel)) (pi_tup (pe_tup (pa_cons pe_str (pa_cons pe_str (pa_cons pe_str (pa_cons pe_str (pa_cons pe_str pa_nil))))))) (blkOk_by (own := [("word", 12)]) (N := ["script", "k", "box", "kept", "turn", "module", "lists", "made", "one", "due", "turned", "text", "word", "other", "mate"]) (sc := defScope s_law) (by decide +kernel)) (fun _ _ _ _ _ => (pg_name (i := 12) sc_law.nd rfl (Or.inl rfl))) (fun _ _ _ _ _ => pts_nil) (fun _ _ _ _ _ => (pe_callTy call_tupleN (by rfl) T.tuple (by decide +kernel) (pa_cons (pe_dget hu (pv 5) (pv 12) (fun _ _ => rfl)) pa_nil)))) fun D σ H h => ?_
  obtain ⟨v, G, m, hv, h12, sG, hF, hw, hx, k⟩ := h
  obtain ⟨d, kvs, rfl, ed, w0, row⟩ := hF.row
  refine ⟨Nat.le_of_ble_eq_true rfl, fun pw nw => ?_⟩
  generalize hq : upd H pw _ = H1
  obtain ⟨s1, ew⟩ := new_facts nw hq
  clear hq
  have ew : H1 pw = some (.tup (words5.map V.str)) := ew
  refine ⟨pw, rfl, ⟨_, SqT.of ew⟩, fun S nS => lc_seq (seqIt_t (SqT.of ew)) (fun i H' => Same H1 H' ∧ ∃ zs, H' S = some (.lst zs) ∧ MadeOf HO.tup H G H' ((rowsL m).take i) zs ∧ ∀ z ∈ zs, z ≠ .ref S) ⟨same_upd nS, [], upd_same, ⟨rfl, fun j z hz => nomatch hz⟩, fun z hz => nomatch hz⟩ (fun i H' q => q.1) ?_ ?_⟩
  · rintro i x H' hxi ⟨s2, zs, eS, hz, hne⟩
    rw [List.getElem?_map] at hxi
    cases hy : words5[i]? with
    | none => rw [hy] at hxi; cases hxi
    | some y =>
      rw [hy] at hxi
      obtain rfl := Option.some.inj (show some (V.str y) = some x from hxi)
      obtain ⟨a, xs, ds, q1, q2, q3, q4, q5⟩ := row i y hy
      have hi : i < 5 := (List.getElem?_eq_some_iff.mp hy).1
      have sGH := (sG.trans s1).trans s2
      have lz : zs.length = i := by rw [hz.1, List.length_take]; show min i 5 = i; omega
      refine ⟨hw _, _, (hx _).1, _, (hx _).2, d, _, rfl, dget_s (sGH _ _ ed) q1, a, xs, rfl, Or.inl ⟨SqL.of (sGH _ _ q3), fun l nl => ?_⟩⟩
      have nS' : S ≠ l := ne_of_none eS nl
      refine ⟨zs, by rw [upd_ne nS']; exact eS, by rw [lz]; exact Nat.lt_of_le_of_lt (show i ≤ 5 by omega) (by decide), ?_, zs ++ [.ref l], upd_same, ⟨?_, fun j z hj => ?_⟩, fun z hzm => ?_⟩
      · exact (s2.trans (same_upd nl)).upd1 nS
      · rw [List.length_append, lz, List.length_take]
        show i + 1 = min (i + 1) 5
        omega
      · rw [List.take_add_one, q2]
        rcases Nat.lt_or_ge j zs.length with hlt | hge
        · rw [List.getElem?_append_left hlt] at hj
          obtain ⟨l', xs', ds', e', r1, r2, r3⟩ := hz.2 j z hj
          have n1 : l' ≠ S := fun q => hne z (List.mem_of_getElem? hj) (by rw [e', q])
          have n2 : l' ≠ l := ne_of_none r2 nl
          refine ⟨l', xs', ds', e', ?_, by rw [upd_ne n1, upd_ne n2]; exact r2, r3⟩
          have hjl : j < ((rowsL m).take i).length := (List.getElem?_eq_some_iff.mp r1).1
          rw [List.getElem?_append_left hjl]
          exact r1
        · rw [List.getElem?_append_right hge] at hj
          have ej : j - zs.length = 0 := by
            have := (List.getElem?_eq_some_iff.mp hj).1
            simp at this
            omega
          rw [ej] at hj
          cases hj
          have jl : j = i := by omega
          refine ⟨l, xs, ds, rfl, ?_, by rw [upd_ne nS'.symm, upd_same], q4, q5, (s1.trans s2).free nl⟩
          have ll : ((rowsL m).take i).length = i := by rw [← hz.1]; exact lz
          rw [jl, List.getElem?_append_right (by rw [ll]; exact Nat.le_refl _), ll]
          simp
      · rcases List.mem_append.mp hzm with hzm | hzm
        · exact hne z hzm
        · rw [List.mem_singleton.mp hzm]
          exact fun q => nS' (by injection q with q; exact q.symm)
  · rintro H2 ⟨s2, zs, eS, hz, hn⟩
    exact k S zs H2 (s1.trans s2) (s1.free nS) eS hz hn
/-- made = Module(module["name"], lists[0], ..) -/
def tMadeS (C : Addr) : TS := fun D σ H => ∃ (v : V) (G H0 : Hp) (m : DM) (S : Addr) (zs : List V), σ[5]? = some (some v) ∧ σ[6]? = some (some (.ref S)) ∧ Same G H ∧ ModF G v m ∧ GoodDM m ∧ okS m.name = true ∧ H S = some (.lst zs) ∧ MadeOf HO.lst H0 G H (rowsL m) zs ∧
  ∀ p H', Same H H' → MoDv C H' p m → D.nx (σ.set 7 (some (.ref p))) H'
theorem five {zs : List V} (h : zs.length = 5) : ∃ z0 z1 z2 z3 z4, zs = [z0, z1, z2, z3, z4] := by
  match zs, h with
  | [z0, z1, z2, z3, z4], _ => exact ⟨z0, z1, z2, z3, z4, rfl⟩
set_option maxHeartbeats 8000000 in
theorem blk_made {fa : Addr} {cdv : Value} {A : Around} {outer : List Env} {s : Shared} {Hx : Hp} {E : XK} (o_Module : Mks P w K mg base "Module" C 6 ["self", "name", "inlets", "outlets", "stations", "links", "calls"] (spInitG C)) (hr : Room 11 (A.deeper (envOfC "law" (defScope s_law) s.heap.objs.size fa cdv))) :
    PS (cxOf CX0 P w K mg base ["script", "k", "box", "kept", "turn", "module", "lists", "made", "one", "due", "turned", "text", "word", "other", "mate"] "law" (defScope s_law) fa cdv A outer s Hx E).nox (nth modBody 1) (tMadeS C) := by
  have hu := hu_of hr
  refine ps_pre (ps_set (i := 7) sc_law.nd rfl (Or.inr rfl) (pe_mks o_Module (hr.mono (by decide)) (pa_cons (pe_dget hu (pv 5) pe_str (fun _ _ => rfl)) (pa_cons (pe_ix ix_list (pv 6) pe_int (fun _ _ => rfl)) (pa_cons (pe_ix ix_list (pv 6) pe_int (fun _ _ => rfl)) (pa_cons (pe_ix ix_list (pv 6) pe_int (fun _ _ => rfl)) (pa_cons (pe_ix ix_list (pv 6) pe_int (fun _ _ => rfl)) (pa_cons (pe_ix ix_list (pv 6) pe_int (fun _ _ => rfl)) pa_nil)))))))) fun D σ H h => ?_
  obtain ⟨v, G, H0, m, S, zs, hv, hS, sG, hF, good, on, eS, hz, k⟩ := h
  obtain ⟨d, kvs, rfl, ed, w0, row⟩ := hF.row
  obtain ⟨z0, z1, z2, z3, z4, rfl⟩ := five (zs := zs) hz.1
  obtain ⟨l0, x0, c0, rfl, r0, e0, v0, n0, _⟩ := hz.2 0 _ rfl
  obtain ⟨l1, x1, c1, rfl, r1, e1, v1, n1, _⟩ := hz.2 1 _ rfl
  obtain ⟨l2, x2, c2, rfl, r2, e2, v2, n2, _⟩ := hz.2 2 _ rfl
  obtain ⟨l3, x3, c3, rfl, r3, e3, v3, n3, _⟩ := hz.2 3 _ rfl
  obtain ⟨l4, x4, c4, rfl, r4, e4, v4, n4, _⟩ := hz.2 4 _ rfl
  cases r0
  cases r1
  cases r2
  cases r3
  cases r4
  refine ⟨_, hv, d, _, rfl, dget_s (sG _ _ ed) w0, _, hS, S, _, 0, _, rfl, rfl, SqL.of eS, atI_nat (j := 0) rfl, _, hS, S, _, 1, _, rfl, rfl, SqL.of eS, atI_nat (j := 1) rfl, _, hS, S, _, 2, _, rfl, rfl, SqL.of eS, atI_nat (j := 2) rfl, _, hS, S, _, 3, _, rfl, rfl, SqL.of eS, atI_nat (j := 3) rfl, _, hS, S, _, 4, _, rfl, rfl, SqL.of eS, atI_nat (j := 4) rfl, ?_⟩
  refine fun x dx nx ndx nex => rd_makeX (C := C) (m := m) nx ndx nex good (⟨.ref l0, .ref l1, .ref l2, .ref l3, .ref l4, _, _, _, _, _, rfl, on, .lst e0 (v0.same sG) n0, .lst e1 (v1.same sG) n1, .lst e2 (v2.same sG) n2, .lst e3 (v3.same sG) n3, .lst e4 (v4.same sG) n4, Or.inl rfl, Or.inl rfl, Or.inl rfl, Or.inl rfl, Or.inl rfl⟩) fun H6 s6 mo => ?_
  exact k x H6 s6 mo
/-- for one in lists: one.append("zz") -/
def tApp : TS := fun D σ H => ∃ (G H0 : Hp) (m : DM) (S : Addr) (zs : List V) (y8 : Option V), σ[6]? = some (some (.ref S)) ∧ σ[8]? = some y8 ∧ σ = σ.set 8 y8 ∧ Same H0 H ∧ H0 S = none ∧ H S = some (.lst zs) ∧ MadeOf HO.lst H0 G H (rowsL m) zs ∧ (∀ z ∈ zs, z ≠ .ref S) ∧
  ∀ y H', KeepTI H H' → Same H0 H' → D.nx (σ.set 8 y) H'
set_option maxHeartbeats 8000000 in
theorem blk_app {fa : Addr} {cdv : Value} {A : Around} {outer : List Env} {s : Shared} {Hx : Hp} {E : XK} :
    PS (cxOf CX0 P w K mg base ["script", "k", "box", "kept", "turn", "module", "lists", "made", "one", "due", "turned", "text", "word", "other", "mate"] "law" (defScope s_law) fa cdv A outer s Hx E).nox (nth modBody 2) tApp := by
  refine ps_pre (ps_for PassesOwn.never rfl (pi_list (pv 6)) (pg_name (i := 8) sc_law.nd rfl (Or.inl rfl))
                (pss_one (ps_expr (pe_bm PySem.F.plainAttrs_list PySem.F.slot_list_append PySem.F.type_list_append mt_append (pv 8) (pa_cons pe_str pa_nil))))) fun D σ H h => ?_
  obtain ⟨G, H0, m, S, zs, y8, hS, h8, hs8, s0, nS, eS, hz, hne, k⟩ := h
  have l8 : 8 < σ.length := (List.getElem?_eq_some_iff.mp h8).1
  obtain ⟨B, hB⟩ : ∃ B, B = upd H0 S (.lst zs) := ⟨_, rfl⟩
  have eB : B S = some (.lst zs) := by rw [hB, upd_same]
  have sB : Same B H := fun c o e => by
    by_cases w1 : c = S
    · rw [hB, w1, upd_same] at e
      rw [w1, eS]
      exact e
    · rw [hB, upd_ne w1] at e
      exact s0 _ _ e
  have s0B : Same H0 B := hB ▸ same_upd nS
  have free : ∀ l, V.ref l ∈ zs → B l = none := fun l hl => by
    obtain ⟨j, hj, e⟩ := List.getElem_of_mem hl
    obtain ⟨l', xs, ds, e', _, _, _, _, n⟩ := hz.2 j (.ref l) (by rw [List.getElem?_eq_getElem hj, e])
    injection e' with e'
    rw [hB, upd_ne (fun q => hne _ hl (by rw [q]))]
    rw [e']
    exact n
  refine ⟨_, hS, S, rfl, ⟨_, SqL.of eS⟩, for_seq (H0 := B) (seqIt_l (SqL.of eB)) (fun i σ' H' => (∃ y, σ' = σ.set 8 y) ∧ Same B H' ∧ KeepTI H H' ∧ ∀ z ∈ zs, ∃ l ys, z = .ref l ∧ H' l = some (.lst ys) ∧ ys.length ≤ 2000 + i) ⟨⟨y8, hs8⟩, sB, KeepTI.of (Same.refl _), fun z hzm => ?_⟩ (fun i σ' H' q => q.2.1) ?_ ?_⟩
  · obtain ⟨j, hj, e⟩ := List.getElem_of_mem hzm
    obtain ⟨l', xs, ds, e', _, q, v, n, _⟩ := hz.2 j z (by rw [List.getElem?_eq_getElem hj, e])
    exact ⟨l', xs, e', q, by rw [v.len]; omega⟩
  · rintro i x σ' H' hx ⟨⟨y, rfl⟩, sB', kt, hall⟩
    have hxm : x ∈ zs := List.mem_of_getElem? hx
    have hi : i < zs.length := (List.getElem?_eq_some_iff.mp hx).1
    have l5 : zs.length = 5 := hz.1
    obtain ⟨l, ys, rfl, el, ll⟩ := hall x hxm
    refine st_g ?_
    rw [List.set_set]
    refine ⟨.ref l, by rw [List.getElem?_set_self l8], Or.inl ⟨rfl, _, SqL.of el⟩, l, ys, _, rfl, rfl, el, Nat.lt_of_le_of_lt (show ys.length ≤ 3000 by omega) (by decide), ⟨_, rfl⟩, ?_, kt.trans (KeepTI.upd el), fun z hzm => ?_⟩
    · exact same_beside sB' (free l hxm)
    · obtain ⟨l', ys', rfl, el', ll'⟩ := hall z hzm
      by_cases q : l' = l
      · rw [q] at el' ⊢
        exact ⟨l, _, rfl, upd_same, by rw [List.length_append]; simp only [List.length_cons, List.length_nil]; omega⟩
      · exact ⟨l', ys', rfl, by rw [upd_ne q]; exact el', by omega⟩
  · rintro σ' H' ⟨⟨y, rfl⟩, sB', kt, _⟩
    exact k y H' kt (s0B.trans sB')
end
end My

namespace My
open PySem PySem.Spec PyProof.Rows L2
local macro_rules | `(tactic| walk_at "side") => `(tactic| first | (dsimp only; omega) | exact ⟨by omega, by omega⟩ | exact Or.inl ⟨by omega, by omega⟩ | exact Or.inr ⟨by omega, by omega⟩ | decide)
local macro_rules | `(tactic| walk_at "sq") => `(tactic| first | assumption | exact SqL.of (by assumption) | exact SqT.of (by assumption) | (refine L2.Same.seq (by assumption) ?_; walk_at "sq") | (refine L2.Same.seqT (by assumption) ?_; walk_at "sq") | exact Or.inl (by walk_at "sq") | exact Or.inr (by walk_at "sq"))
local macro_rules | `(tactic| walk_at "1") => `(tactic| first
  | refine ⟨_, rfl, iteT ?_⟩
  | refine ⟨_, rfl, iteF ?_⟩
  | refine ⟨_, rfl, ?_⟩
  | refine ⟨_, _, rfl, rfl, (by walk_at "side"), ?_⟩
  | refine ⟨_, _, rfl, rfl, ?_⟩
  | refine ⟨_, _, _, _, true, rfl, .ty _, .base (.int _), kit_ty (a := "int") (by decide +kernel), ?_⟩
  | refine ⟨_, _, _, _, false, rfl, .ty _, .base (.int _), kit_ty (a := "int") (by decide +kernel), ?_⟩
  | refine ⟨_, _, rfl, (by walk_at "sq"), ?_⟩
  | refine ⟨_, _, _, _, rfl, rfl, (by walk_at "sq"), (by first | rfl | assumption), ?_⟩
  | refine Or.inl ⟨_, _, _, _, rfl, rfl, (by walk_at "sq"), (by first | rfl | assumption), ?_⟩
  | refine Or.inr (Or.inl ⟨_, _, _, _, rfl, rfl, (by walk_at "sq"), (by first | rfl | assumption), ?_⟩)
  | refine ⟨_, _, rfl, Or.inl ⟨(by walk_at "sq"), ?_⟩⟩
  | refine ⟨rfl, ?_⟩
  | refine iteT ?_
  | refine iteF ?_
  | refine ⟨_, _, _, _, _, rfl, (by assumption), (by assumption), (by assumption), (by assumption), ?_⟩
  | refine Or.inl ⟨_, rfl, ?_⟩
  | refine Or.inr ⟨_, rfl, ?_⟩
  | refine ⟨_, _, rfl, (by walk_at "side"), ?_⟩
  | refine ⟨_, _, rfl, ?_⟩)
local macro_rules | `(tactic| walk_at "fld") => `(tactic| skip)
local macro_rules | `(tactic| walk_at "s") => `(tactic| repeat walk_at "1")
local macro_rules | `(tactic| walk_at "size") => `(tactic| first | exact Nat.le_of_ble_eq_true rfl | (simp only [List.length_map, List.length_append, List.length_cons, List.length_nil]; omega))
local macro_rules | `(tactic| walk_at "new") => `(tactic| (first | refine ⟨(by walk_at "size"), fun p hp => ?_⟩ | refine fun p hp => ?_); (generalize hq : upd _ p _ = H1); (obtain ⟨s, e⟩ := new_facts hp hq); clear hq)
/-- Module.read stands at the class -/
structure ReadM (P : Program) (w : World) (K : PySem.W.Frag) (mg : Str → Option Value) (base : Heap) (C : Addr) : Prop where
  ex : ∃ f fd p, FnOk P w K mg base CX0 9 f fd ["text"] (spReadM C) ∧ SMet K C "read" p f ∧ Binds K fd ["text"] []
theorem passAt0 {X : Cx} (σ : L2.St) : PassesAt CX0 X σ E0 := fun _ _ _ _ _ _ h => h.elim
/-- what == asks of the class of houses -/
structure HouseEq (K : PySem.W.Frag) (C HC : Addr) : Prop where
  ins : ∀ (H : Hp) (a dx : Addr) (fs : List (Str × V)), H a = some (.ins HC dx fs) → TyX K H (.ref a) (.ref HC)
  kit : PySem.W.kitOne K (.ref HC) (.ref C) = some false
  nf : PySem.W.notFirst K C (.ref HC) = true
/-- due, as it stands -/
def DueAt (H : Hp) (D : Addr) (m : DM) : Prop := ∃ t1 t2 t3 t4 t5, H D = some (.lst [.ref t1, .ref t2, .ref t3, .ref t4, .ref t5]) ∧ Dv H (.ref t1) (tupS m.inl) ∧ Dv H (.ref t2) (tupS m.out) ∧ Dv H (.ref t3) (tupS m.sta) ∧ Dv H (.ref t4) (linksT m.links) ∧ Dv H (.ref t5) (callsT m.calls)
theorem DueAt.same {H H' : Hp} {D : Addr} {m : DM} (s : Same H H') (h : DueAt H D m) : DueAt H' D m := by
  obtain ⟨t1, t2, t3, t4, t5, e, g1, g2, g3, g4, g5⟩ := h
  exact ⟨t1, t2, t3, t4, t5, s _ _ e, g1.same s, g2.same s, g3.same s, g4.same s, g5.same s⟩
theorem due_of {H0 G H : Hp} {D : Addr} {m : DM} {zs : List V} (s : Same G H) (e : H D = some (.lst zs)) (h : MadeOf HO.tup H0 G H (rowsL m) zs) : DueAt H D m := by
  obtain ⟨z0, z1, z2, z3, z4, rfl⟩ := five (zs := zs) h.1
  obtain ⟨l0, x0, c0, rfl, r0, e0, v0, n0, _⟩ := h.2 0 _ rfl
  obtain ⟨l1, x1, c1, rfl, r1, e1, v1, n1, _⟩ := h.2 1 _ rfl
  obtain ⟨l2, x2, c2, rfl, r2, e2, v2, n2, _⟩ := h.2 2 _ rfl
  obtain ⟨l3, x3, c3, rfl, r3, e3, v3, n3, _⟩ := h.2 3 _ rfl
  obtain ⟨l4, x4, c4, rfl, r4, e4, v4, n4, _⟩ := h.2 4 _ rfl
  cases r0
  cases r1
  cases r2
  cases r3
  cases r4
  exact ⟨l0, l1, l2, l3, l4, e, .tup e0 (v0.same s) n0, .tup e1 (v1.same s) n1, .tup e2 (v2.same s) n2, .tup e3 (v3.same s) n3, .tup e4 (v4.same s) n4⟩
/-- module, made and due stand -/
structure At9 (C : Addr) (σ : L2.St) (H : Hp) (v : V) (p D : Addr) (m : DM) (G : Hp) : Prop where
  v5 : σ[5]? = some (some v)
  v7 : σ[7]? = some (some (.ref p))
  v9 : σ[9]? = some (some (.ref D))
  sG : Same G H
  hF : ModF G v m
  T : TextDM m
  B : DMBase m
  mo : MoDv C H p m
  due : DueAt H D m
def tPass (C : Addr) : TS := fun D σ H => ∃ v p Dd m G, At9 C σ H v p Dd m G ∧ ∀ H', Same H H' → D.nx σ H'
section
variable {P : Program} {w : World} {K : PySem.W.Frag} {mg : Str → Option Value} {base : Heap} {C HC : Addr}
set_option maxHeartbeats 8000000 in
theorem blk_shape {fa : Addr} {cdv : Value} {A : Around} {outer : List Env} {s : Shared} {Hx : Hp} {E : XK} (T : Txt mg) (o_law_shape : OwnG P w K mg base "_law_shape" 1 ["made"] (spShape K C)) (ot : StrM P w K mg base C) (o_law_text : Own P w K mg base "_law_text" 1 ["module"] spText9)
    (hr : Room 11 (A.deeper (envOfC "law" (defScope s_law) s.heap.objs.size fa cdv))) (gd : (A.deeper (envOfC "law" (defScope s_law) s.heap.objs.size fa cdv)).guards = some []) :
    PS (cxOf CX0 P w K mg base ["script", "k", "box", "kept", "turn", "module", "lists", "made", "one", "due", "turned", "text", "word", "other", "mate"] "law" (defScope s_law) fa cdv A outer s Hx E).nox (nth modBody 4) (tPass C) := by
  have hu := hu_of hr
  refine ps_pre (ps_if (PW.pt (pw_or (pt_cmpR op_ne (pe_ownG o_law_shape gd (hr.mono (by decide)) (pa_cons (pv 7) pa_nil)) (pe_callB (MyG.call_reprD gd hr.units) (by rfl) T.repr (by decide +kernel) (pa_cons (pe_op op_catT (pe_tup (pa_cons (pe_dget hu (pv 5) pe_str (fun _ _ => rfl)) pa_nil)) (pe_callTy call_tupleN (by rfl) T.tuple (by decide +kernel) (pa_cons (pv 9) pa_nil))) pa_nil)) (nomark _)) (pw_or1 (pt_cmpR op_ne (pe_callTy (call_strM ot (hr.mono (by decide))) (by rfl) T.str (by decide +kernel) (pa_cons (pv 7) pa_nil)) (pe_own o_law_text (hr.mono (by decide)) (pa_cons (pv 5) pa_nil)) (nomark _)))))
                (pss_one (ps_ret pe_bl))
                pss_nil) fun D σ H h => ?_
  obtain ⟨v, p, Dd, m, G, Z, k⟩ := h
  have F := Z.T.F
  have R := Z.T.R
  have sw := shape_shows F R.can (okS_name R.name)
  obtain ⟨d, kvs, hv, ed, w0, _⟩ := Z.hF.row
  have h5 := Z.v5
  rw [hv] at h5
  refine ⟨_, Z.v7, p, m, rfl, Z.mo.mo, sw, fun H1 s1 => ?_⟩
  refine ⟨_, h5, d, _, rfl, dget_s (s1 _ _ (Z.sG _ _ ed)) w0, ?_⟩
  refine ⟨Nat.le_of_ble_eq_true rfl, fun q nq => ?_⟩
  generalize hq : upd H1 q _ = H2
  obtain ⟨s2, eq⟩ := new_facts nq hq
  clear hq
  obtain ⟨t1, t2, t3, t4, t5, eD, g1, g2, g3, g4, g5⟩ := Z.due.same (s1.trans s2)
  refine ⟨_, Z.v9, Dd, _, rfl, Or.inl ⟨SqL.of eD, fun l nl => ?_⟩⟩
  generalize hq : upd H2 l _ = H3
  obtain ⟨s3, el⟩ := new_facts nl hq
  clear hq
  refine ⟨q, l, _, _, rfl, rfl, SqT.of (s3 _ _ eq), SqT.of el, by simp, Nat.le_of_ble_eq_true rfl, fun z => absurd z (by simp), fun _ r nr => ?_⟩
  generalize hq : upd H3 r _ = H4
  obtain ⟨s4, er⟩ := new_facts nr hq
  clear hq
  have s24 := s3.trans s4
  have er : H4 r = some (.tup [.str m.name, .ref t1, .ref t2, .ref t3, .ref t4, .ref t5]) := er
  refine ⟨r, shapeD m, rfl, .tup (SqT.of er) (.cons (.str _) (.cons (g1.same s24).dp (.cons (g2.same s24).dp (.cons (g3.same s24).dp (.cons (g4.same s24).dp (.cons (g5.same s24).dp .nil)))))), sw.sh, sw.nd, sw.dp, sw.fit, rfl, _, rfl, ?_⟩
  rw [decide_eq_true (show V.str (shapeD m).shown = V.str (shapeD m).shown from rfl)]
  refine iteF ?_
  have s14 := s1.trans (s2.trans s24)
  refine ⟨_, Z.v7, rd_strM (Z.mo.same s14) F fun H5 s5 => ?_⟩
  refine ⟨_, Z.v5, v, m, rfl, ModF.same ((Z.sG.trans s14).trans s5) Z.hF, F, fun H6 s6 => ⟨rfl, _, rfl, ?_⟩⟩
  rw [decide_eq_true (show V.str (textM m) = V.str (textM m) from rfl)]
  refine iteF ?_
  exact k H6 (s14.trans (s5.trans s6))
set_option maxHeartbeats 8000000 in
theorem blk_read {fa : Addr} {cdv : Value} {A : Around} {outer : List Env} {s : Shared} {Hx : Hp} {E : XK} (Z0 : ModEq K mg C) (oq : EqM P w K mg base C) (RM : ReadM P w K mg base C) (o_law_text : Own P w K mg base "_law_text" 1 ["module"] spText9)
    (hr : Room 11 (A.deeper (envOfC "law" (defScope s_law) s.heap.objs.size fa cdv))) :
    PS (cxOf CX0 P w K mg base ["script", "k", "box", "kept", "turn", "module", "lists", "made", "one", "due", "turned", "text", "word", "other", "mate"] "law" (defScope s_law) fa cdv A outer s Hx E).nox (nth modBody 5) (tPass C) := by
  obtain ⟨fR, fdR, pR, FR, SR, bR⟩ := RM.ex
  refine ps_pre (ps_if (pt_cmpR (op_neM oq Z0 (hr.mono (by decide))) (pe_smeth (E := fun _ => E0) (pe_glob (v := .ref C) (by rfl) Z0.g rfl) SR FR (hr.mono (by decide)) bR (fun σ => passAt0 σ) (pa_cons (pe_own o_law_text (hr.mono (by decide)) (pa_cons (pv 5) pa_nil)) pa_nil)) (pv 7) (nomark _))
                (pss_one (ps_ret pe_bl))
                pss_nil) fun D σ H h => ?_
  obtain ⟨v, p, Dd, m, G, Z, k⟩ := h
  have F := Z.T.F
  have R := Z.T.R
  refine ⟨rfl, _, Z.v5, v, m, rfl, ModF.same Z.sG Z.hF, F, fun H1 s1 => ?_⟩
  refine ⟨textM m, m.name, lnsOf m, rfl, text_ok Z.T, by rw [fold_all]; exact R.good, okS_name R.name, fun H2 q s2 mo => ?_⟩
  rw [fold_all] at mo
  refine ⟨_, Z.v7, rd_neMod Z0 mo.mo (Z.mo.same (s1.trans s2)).mo R.can R.can ⟨_, rfl, ?_⟩⟩
  rw [decide_eq_true rfl]
  refine iteF ?_
  exact k H2 (s1.trans s2)
set_option maxHeartbeats 8000000 in
theorem blk_again {fa : Addr} {cdv : Value} {A : Around} {outer : List Env} {s : Shared} {Hx : Hp} {E : XK} (Z0 : ModEq K mg C) (oq : EqM P w K mg base C) (o_Module : Mks P w K mg base "Module" C 6 ["self", "name", "inlets", "outlets", "stations", "links", "calls"] (spInitG C))
    (hr : Room 11 (A.deeper (envOfC "law" (defScope s_law) s.heap.objs.size fa cdv))) :
    PS (cxOf CX0 P w K mg base ["script", "k", "box", "kept", "turn", "module", "lists", "made", "one", "due", "turned", "text", "word", "other", "mate"] "law" (defScope s_law) fa cdv A outer s Hx E).nox (nth modBody 6) (tPass C) := by
  have hu := hu_of hr
  refine ps_pre (ps_if (pt_cmpR (op_neM oq Z0 (hr.mono (by decide))) (pe_mks o_Module (hr.mono (by decide)) (pa_cons (pe_dget hu (pv 5) pe_str (fun _ _ => rfl)) (pa_cons (pe_ix ix_list (pv 9) pe_int (fun _ _ => rfl)) (pa_cons (pe_ix ix_list (pv 9) pe_int (fun _ _ => rfl)) (pa_cons (pe_ix ix_list (pv 9) pe_int (fun _ _ => rfl)) (pa_cons (pe_ix ix_list (pv 9) pe_int (fun _ _ => rfl)) (pa_cons (pe_ix ix_list (pv 9) pe_int (fun _ _ => rfl)) pa_nil))))))) (pv 7) (nomark _))
                (pss_one (ps_ret pe_bl))
                pss_nil) fun D σ H h => ?_
  obtain ⟨v, p, Dd, m, G, Z, k⟩ := h
  have R := Z.T.R
  obtain ⟨d, kvs, hv, ed, w0, _⟩ := Z.hF.row
  have h5 := Z.v5
  rw [hv] at h5
  obtain ⟨t1, t2, t3, t4, t5, eD, g1, g2, g3, g4, g5⟩ := Z.due
  refine ⟨_, h5, d, _, rfl, dget_s (Z.sG _ _ ed) w0, _, Z.v9, Dd, _, 0, _, rfl, rfl, SqL.of eD, atI_nat (j := 0) rfl, _, Z.v9, Dd, _, 1, _, rfl, rfl, SqL.of eD, atI_nat (j := 1) rfl, _, Z.v9, Dd, _, 2, _, rfl, rfl, SqL.of eD, atI_nat (j := 2) rfl, _, Z.v9, Dd, _, 3, _, rfl, rfl, SqL.of eD, atI_nat (j := 3) rfl, _, Z.v9, Dd, _, 4, _, rfl, rfl, SqL.of eD, atI_nat (j := 4) rfl, ?_⟩
  refine fun x dx nx ndx nex => rd_makeX (C := C) (m := m) nx ndx nex R.good (⟨_, _, _, _, _, _, _, _, _, _, rfl, okS_name R.name, g1, g2, g3, g4, g5, Or.inr rfl, Or.inr rfl, Or.inr rfl, Or.inr rfl, Or.inr rfl⟩) fun H6 s6 mo => ?_
  refine ⟨_, Z.v7, rd_neMod Z0 mo.mo (Z.mo.same s6).mo R.can R.can ⟨_, rfl, ?_⟩⟩
  rw [decide_eq_true rfl]
  refine iteF ?_
  exact k H6 s6
end
end My

namespace My
open PySem PySem.Spec PyProof.Rows L2
local macro_rules | `(tactic| walk_at "side") => `(tactic| first | (dsimp only; omega) | exact ⟨by omega, by omega⟩ | exact Or.inl ⟨by omega, by omega⟩ | exact Or.inr ⟨by omega, by omega⟩ | decide)
local macro_rules | `(tactic| walk_at "sq") => `(tactic| first | assumption | exact SqL.of (by assumption) | exact SqT.of (by assumption) | (refine L2.Same.seq (by assumption) ?_; walk_at "sq") | (refine L2.Same.seqT (by assumption) ?_; walk_at "sq") | exact Or.inl (by walk_at "sq") | exact Or.inr (by walk_at "sq"))
local macro_rules | `(tactic| walk_at "1") => `(tactic| first
  | refine ⟨_, rfl, iteT ?_⟩
  | refine ⟨_, rfl, iteF ?_⟩
  | refine ⟨_, rfl, ?_⟩
  | refine ⟨_, _, rfl, rfl, (by walk_at "side"), ?_⟩
  | refine ⟨_, _, rfl, rfl, ?_⟩
  | refine ⟨_, _, _, _, true, rfl, .ty _, .base (.int _), kit_ty (a := "int") (by decide +kernel), ?_⟩
  | refine ⟨_, _, _, _, false, rfl, .ty _, .base (.int _), kit_ty (a := "int") (by decide +kernel), ?_⟩
  | refine ⟨_, _, rfl, (by walk_at "sq"), ?_⟩
  | refine ⟨_, _, _, _, rfl, rfl, (by walk_at "sq"), (by first | rfl | assumption), ?_⟩
  | refine Or.inl ⟨_, _, _, _, rfl, rfl, (by walk_at "sq"), (by first | rfl | assumption), ?_⟩
  | refine Or.inr (Or.inl ⟨_, _, _, _, rfl, rfl, (by walk_at "sq"), (by first | rfl | assumption), ?_⟩)
  | refine ⟨_, _, rfl, Or.inl ⟨(by walk_at "sq"), ?_⟩⟩
  | refine ⟨rfl, ?_⟩
  | refine iteT ?_
  | refine iteF ?_
  | refine ⟨_, _, _, _, _, rfl, (by assumption), (by assumption), (by assumption), (by assumption), ?_⟩
  | refine Or.inl ⟨_, rfl, ?_⟩
  | refine Or.inr ⟨_, rfl, ?_⟩
  | refine ⟨_, _, rfl, (by walk_at "side"), ?_⟩
  | refine ⟨_, _, rfl, ?_⟩)
local macro_rules | `(tactic| walk_at "fld") => `(tactic| skip)
local macro_rules | `(tactic| walk_at "s") => `(tactic| repeat walk_at "1")
local macro_rules | `(tactic| walk_at "size") => `(tactic| first | exact Nat.le_of_ble_eq_true rfl | (simp only [List.length_map, List.length_append, List.length_cons, List.length_nil]; omega))
local macro_rules | `(tactic| walk_at "new") => `(tactic| (first | refine ⟨(by walk_at "size"), fun p hp => ?_⟩ | refine fun p hp => ?_); (generalize hq : upd _ p _ = H1); (obtain ⟨s, e⟩ := new_facts hp hq); clear hq)
def revM (m : DM) : DM := { m with links := m.links.reverse }
theorem rev_right {m : DM} (R : RightDM m) : RightDM (revM m) := right_links R fun l hl => List.mem_reverse.mp hl
theorem rev_iff (m : DM) : (revM m = m) ↔ m.links = m.links.reverse := by
  constructor
  · intro h
    exact (congrArg DM.links h).symm
  · intro h
    unfold revM
    rw [← h]
/-- turned = Module(.., due[3][::0 - 1], ..) -/
def tTurned (C : Addr) : TS := fun D σ H => ∃ v p Dd m G, At9 C σ H v p Dd m G ∧ ∀ q H', Same H H' → MoDv C H' q (revM m) → D.nx (σ.set 10 (some (.ref q))) H'
def tTurnEq (C : Addr) : TS := fun D σ H => ∃ v p q Dd m G, At9 C σ H v p Dd m G ∧ σ[10]? = some (some (.ref q)) ∧ MoDv C H q (revM m) ∧ ∀ H', Same H H' → D.nx σ H'
/-- kept.append((text, made)) -/
def tKeep (C : Addr) : TS := fun D σ H => ∃ v p m G L xs, σ[3]? = some (some (.ref L)) ∧ σ[5]? = some (some v) ∧ σ[7]? = some (some (.ref p)) ∧ Same G H ∧ ModF G v m ∧ TextDM m ∧ H L = some (.lst xs) ∧ xs.length ≤ 100 ∧
  ∀ t H1 H', Same H H1 → H1 t = some (.tup [.str (textM m), .ref p]) → H' = upd H1 L (.lst (xs ++ [.ref t])) → D.nx σ H'
section
variable {P : Program} {w : World} {K : PySem.W.Frag} {mg : Str → Option Value} {base : Heap} {C HC : Addr}
set_option maxHeartbeats 8000000 in
theorem blk_odd {fa : Addr} {cdv : Value} {A : Around} {outer : List Env} {s : Shared} {Hx : Hp} {E : XK} (T : Txt mg) (Z0 : ModEq K mg C) (ZH : HouseEq K C HC) (oq : EqM P w K mg base C) (ot : StrM P w K mg base C) (o_House : Mks P w K mg base "House" HC 3 ["self", "modules"] (spInitH HC))
    (hr : Room 11 (A.deeper (envOfC "law" (defScope s_law) s.heap.objs.size fa cdv))) :
    PS (cxOf CX0 P w K mg base ["script", "k", "box", "kept", "turn", "module", "lists", "made", "one", "due", "turned", "text", "word", "other", "mate"] "law" (defScope s_law) fa cdv A outer s Hx E).nox (nth modBody 7) (tPass C) := by
  refine ps_pre (ps_if (PW.pt (pw_or (pt_cmpR (op_eqM oq Z0 (hr.mono (by decide))) (pv 7) (pe_callTy (call_strM ot (hr.mono (by decide))) (by rfl) T.str (by decide +kernel) (pa_cons (pv 7) pa_nil)) (nomark _)) (pw_or (pt_cmpR (op_eqM oq Z0 (hr.mono (by decide))) (pv 7) pe_int (nomark _)) (pw_or1 (pt_cmpR (op_eqM oq Z0 (hr.mono (by decide))) (pv 7) (pe_mks o_House (hr.mono (by decide)) (pa_cons (pe_lst pa_nil) pa_nil)) (nomark _))))))
                (pss_one (ps_ret pe_bl))
                pss_nil) fun D σ H h => ?_
  obtain ⟨v, p, Dd, m, G, Z, k⟩ := h
  have F := Z.T.F
  refine ⟨_, Z.v7, _, Z.v7, rd_strM Z.mo F fun H1 s1 => ?_⟩
  refine rd_eqOdd Z0 (Z.mo.same s1).mo (.base (.str _)) Z0.str Z0.nstr ⟨_, rfl, ?_⟩
  refine iteF ?_
  refine ⟨_, Z.v7, rd_eqOdd Z0 (Z.mo.same s1).mo (.base (.int 0)) Z0.int Z0.nint ⟨_, rfl, ?_⟩⟩
  refine iteF ?_
  refine ⟨_, Z.v7, Nat.zero_le _, fun L nL => ?_⟩
  generalize hq : upd H1 L _ = H2
  obtain ⟨s2, eL⟩ := new_facts nL hq
  clear hq
  refine fun x dx nx ndx nex => ?_
  refine ⟨H2, x, dx, L, rfl, nx, fun b o e => by rw [upd_ne (ne_of_none e nx), upd_ne (ne_of_none e ndx)]; exact e, upd_same, eL, fun H3 fs s3 ex => ⟨rfl, ?_⟩⟩
  have s13 := s1.trans (s2.trans s3)
  refine rd_eqOdd Z0 (Z.mo.same s13).mo (ZH.ins _ _ _ _ ex) ZH.kit ZH.nf ⟨_, rfl, ?_⟩
  refine iteF ?_
  exact k H3 s13
set_option maxHeartbeats 8000000 in
theorem blk_turned {fa : Addr} {cdv : Value} {A : Around} {outer : List Env} {s : Shared} {Hx : Hp} {E : XK} (o_Module : Mks P w K mg base "Module" C 6 ["self", "name", "inlets", "outlets", "stations", "links", "calls"] (spInitG C))
    (hr : Room 11 (A.deeper (envOfC "law" (defScope s_law) s.heap.objs.size fa cdv))) :
    PS (cxOf CX0 P w K mg base ["script", "k", "box", "kept", "turn", "module", "lists", "made", "one", "due", "turned", "text", "word", "other", "mate"] "law" (defScope s_law) fa cdv A outer s Hx E).nox (nth modBody 8) (tTurned C) := by
  have hu := hu_of hr
  refine ps_pre (ps_set (i := 10) sc_law.nd rfl (Or.inl rfl) (pe_mks o_Module (hr.mono (by decide)) (pa_cons (pe_dget hu (pv 5) pe_str (fun _ _ => rfl)) (pa_cons (pe_ix ix_list (pv 9) pe_int (fun _ _ => rfl)) (pa_cons (pe_ix ix_list (pv 9) pe_int (fun _ _ => rfl)) (pa_cons (pe_ix ix_list (pv 9) pe_int (fun _ _ => rfl)) (pa_cons (pe_revTZ (pe_ix ix_list (pv 9) pe_int (fun _ _ => rfl))) (pa_cons (pe_ix ix_list (pv 9) pe_int (fun _ _ => rfl)) pa_nil)))))))) fun D σ H h => ?_
  obtain ⟨v, p, Dd, m, G, Z, k⟩ := h
  have R := Z.T.R
  obtain ⟨d, kvs, hv, ed, w0, _⟩ := Z.hF.row
  have h5 := Z.v5
  rw [hv] at h5
  obtain ⟨t1, t2, t3, t4, t5, eD, g1, g2, g3, g4, g5⟩ := Z.due
  obtain ⟨xs, e4, h4, l4⟩ : ∃ xs, H t4 = some (.tup xs) ∧ DvAll H xs (m.links.map linkD) ∧ (m.links.map linkD).length ≤ 2000 := by
    cases g4 with
    | tup e h sm => exact ⟨_, e, h, sm⟩
  have rev : ∀ {xs : List V} {ds : List PyData}, DvAll H xs ds → DvAll H xs.reverse ds.reverse := by
    intro xs ds h
    induction ds generalizing xs with
    | nil =>
      rw [h.inv0]
      exact .nil
    | cons d ds ih =>
      obtain ⟨y, ys, rfl, h1, h2⟩ := h.inv
      rw [List.reverse_cons, List.reverse_cons]
      exact (ih h2).app (.cons h1 .nil)
  refine ⟨_, h5, d, _, rfl, dget_s (Z.sG _ _ ed) w0, _, Z.v9, Dd, _, 0, _, rfl, rfl, SqL.of eD, atI_nat (j := 0) rfl, _, Z.v9, Dd, _, 1, _, rfl, rfl, SqL.of eD, atI_nat (j := 1) rfl, _, Z.v9, Dd, _, 2, _, rfl, rfl, SqL.of eD, atI_nat (j := 2) rfl, _, Z.v9, Dd, _, 3, _, rfl, rfl, SqL.of eD, atI_nat (j := 3) rfl, t4, xs, rfl, SqT.of e4, fun r nr => ?_⟩
  generalize hq : upd H r _ = H1
  obtain ⟨s1, er⟩ := new_facts nr hq
  clear hq
  refine ⟨_, Z.v9, Dd, _, 4, _, rfl, rfl, SqL.of (s1 _ _ eD), atI_nat (j := 4) rfl, ?_⟩
  refine fun x dx nx ndx nex => rd_makeX (C := C) (m := revM m) nx ndx nex (rev_right R).good (⟨_, _, _, _, _, _, _, _, _, _, rfl, okS_name R.name, g1.same s1, g2.same s1, g3.same s1, .tup er ((rev h4).same s1) (by rw [List.length_reverse]; exact l4), g5.same s1, Or.inr rfl, Or.inr rfl, Or.inr rfl, Or.inr (by show PyData.tuple (m.links.map linkD).reverse = .tuple (m.links.reverse.map linkD); rw [List.map_reverse]), Or.inr rfl⟩) fun H6 s6 mo => ?_
  exact k x H6 (s1.trans s6) mo
set_option maxHeartbeats 8000000 in
theorem blk_turnEq {fa : Addr} {cdv : Value} {A : Around} {outer : List Env} {s : Shared} {Hx : Hp} {E : XK} (Z0 : ModEq K mg C) (oq : EqM P w K mg base C)
    (hr : Room 11 (A.deeper (envOfC "law" (defScope s_law) s.heap.objs.size fa cdv))) :
    PS (cxOf CX0 P w K mg base ["script", "k", "box", "kept", "turn", "module", "lists", "made", "one", "due", "turned", "text", "word", "other", "mate"] "law" (defScope s_law) fa cdv A outer s Hx E).nox (nth modBody 9) (tTurnEq C) := by
  refine ps_pre (ps_if (pt_cmpR op_ne (pe_cmpR (op_eqM oq Z0 (hr.mono (by decide))) (pv 10) (pv 7) (nomark _)) (pe_cmpR (op_eqD hr.units) (pe_ix ix_list (pv 9) pe_int (fun _ _ => rfl)) (pe_revTZ (pe_ix ix_list (pv 9) pe_int (fun _ _ => rfl))) (nomark _)) (nomark _))
                (pss_one (ps_ret pe_bl))
                pss_nil) fun D σ H h => ?_
  obtain ⟨v, p, q, Dd, m, G, Z, h10, mq, k⟩ := h
  have R := Z.T.R
  obtain ⟨t1, t2, t3, t4, t5, eD, g1, g2, g3, g4, g5⟩ := Z.due
  obtain ⟨xs, e4, h4, l4⟩ : ∃ xs, H t4 = some (.tup xs) ∧ DvAll H xs (m.links.map linkD) ∧ (m.links.map linkD).length ≤ 2000 := by
    cases g4 with
    | tup e h sm => exact ⟨_, e, h, sm⟩
  have rev : ∀ {xs : List V} {ds : List PyData}, DvAll H xs ds → DvAll H xs.reverse ds.reverse := by
    intro xs ds h
    induction ds generalizing xs with
    | nil =>
      rw [h.inv0]
      exact .nil
    | cons d ds ih =>
      obtain ⟨y, ys, rfl, h1, h2⟩ := h.inv
      rw [List.reverse_cons, List.reverse_cons]
      exact (ih h2).app (.cons h1 .nil)
  refine ⟨_, h10, _, Z.v7, rd_eqMod Z0 mq.mo Z.mo.mo (rev_right R).can R.can ?_⟩
  refine ⟨_, Z.v9, Dd, _, 3, _, rfl, rfl, SqL.of eD, atI_nat (j := 3) rfl, _, Z.v9, Dd, _, 3, _, rfl, rfl, SqL.of eD, atI_nat (j := 3) rfl, t4, xs, rfl, SqT.of e4, fun r nr => ?_⟩
  generalize hq : upd H r _ = H1
  obtain ⟨s1, er⟩ := new_facts nr hq
  clear hq
  have dr : Dv H1 (.ref r) (linksT m.links.reverse) := by
    show Dv H1 (.ref r) (.tuple (m.links.reverse.map linkD))
    rw [List.map_reverse]
    exact .tup er ((rev h4).same s1) (by rw [List.length_reverse]; exact l4)
  refine rd_eqP (g4.same s1).dp dr.dp (shaped_links R.can.links) (shaped_links (rev_right R).can.links) (eqv_links _ _) ?_
  refine ⟨rfl, _, rfl, ?_⟩
  rw [show decide (revM m = m) = decide (m.links = m.links.reverse) from decide_eq_decide.mpr (rev_iff m)]
  rw [decide_eq_true (show V.bl (decide (m.links = m.links.reverse)) = V.bl (decide (m.links = m.links.reverse)) from rfl)]
  refine iteF ?_
  exact k H1 s1
set_option maxHeartbeats 8000000 in
theorem blk_unlike {fa : Addr} {cdv : Value} {A : Around} {outer : List Env} {s : Shared} {Hx : Hp} {E : XK} (o_law_unlike : Own P w K mg base "_law_is_unlike_others" 8 ["module", "made"] (spUnlike K C))
    (hr : Room 11 (A.deeper (envOfC "law" (defScope s_law) s.heap.objs.size fa cdv))) :
    PS (cxOf CX0 P w K mg base ["script", "k", "box", "kept", "turn", "module", "lists", "made", "one", "due", "turned", "text", "word", "other", "mate"] "law" (defScope s_law) fa cdv A outer s Hx E).nox (nth modBody 10) (tPass C) := by
  refine ps_pre (ps_if (pt_not (pt_val (pe_own o_law_unlike (hr.mono (by decide)) (pa_cons (pv 5) (pa_cons (pv 7) pa_nil)))))
                (pss_one (ps_ret pe_bl))
                pss_nil) fun D σ H h => ?_
  obtain ⟨v, p, Dd, m, G, Z, k⟩ := h
  refine ⟨_, Z.v5, _, Z.v7, v, p, m, rfl, ModF.same Z.sG Z.hF, Z.mo.mo, Z.B, Z.T.R, fun H1 s1 => ⟨_, rfl, ?_⟩⟩
  refine iteF ?_
  exact k H1 s1
set_option maxHeartbeats 8000000 in
theorem blk_keep {fa : Addr} {cdv : Value} {A : Around} {outer : List Env} {s : Shared} {Hx : Hp} {E : XK} (o_law_text : Own P w K mg base "_law_text" 1 ["module"] spText9)
    (hr : Room 11 (A.deeper (envOfC "law" (defScope s_law) s.heap.objs.size fa cdv))) :
    PS (cxOf CX0 P w K mg base ["script", "k", "box", "kept", "turn", "module", "lists", "made", "one", "due", "turned", "text", "word", "other", "mate"] "law" (defScope s_law) fa cdv A outer s Hx E).nox (nth modBody 11) (tKeep C) := by
  refine ps_pre (ps_expr (pe_bm PySem.F.plainAttrs_list PySem.F.slot_list_append PySem.F.type_list_append mt_append (pv 3) (pa_cons (pe_tup (pa_cons (pe_own o_law_text (hr.mono (by decide)) (pa_cons (pv 5) pa_nil)) (pa_cons (pv 7) pa_nil))) pa_nil))) fun D σ H h => ?_
  obtain ⟨v, p, m, G, L, xs, h3, h5, h7, sG, hF, TT, eL, lx, k⟩ := h
  refine ⟨_, h3, Or.inl ⟨rfl, _, SqL.of eL⟩, _, h5, v, m, rfl, ModF.same sG hF, TT.F, fun H1 s1 => ?_⟩
  refine ⟨_, h7, Nat.le_of_ble_eq_true rfl, fun t nt => ?_⟩
  generalize hq : upd H1 t _ = H2
  obtain ⟨s2, et⟩ := new_facts nt hq
  clear hq
  exact ⟨L, xs, _, rfl, rfl, (s1.trans s2) _ _ eL, Nat.lt_of_le_of_lt lx (by decide), k t H2 _ (s1.trans s2) et rfl⟩
end
end My

namespace My
open PySem PySem.Spec PyProof.Rows L2
local macro_rules | `(tactic| walk_at "side") => `(tactic| first | (dsimp only; omega) | exact ⟨by omega, by omega⟩ | exact Or.inl ⟨by omega, by omega⟩ | exact Or.inr ⟨by omega, by omega⟩ | decide)
local macro_rules | `(tactic| walk_at "sq") => `(tactic| first | assumption | exact SqL.of (by assumption) | exact SqT.of (by assumption) | (refine L2.Same.seq (by assumption) ?_; walk_at "sq") | (refine L2.Same.seqT (by assumption) ?_; walk_at "sq") | exact Or.inl (by walk_at "sq") | exact Or.inr (by walk_at "sq"))
local macro_rules | `(tactic| walk_at "1") => `(tactic| first
  | refine ⟨_, rfl, iteT ?_⟩
  | refine ⟨_, rfl, iteF ?_⟩
  | refine ⟨_, rfl, ?_⟩
  | refine ⟨_, _, rfl, rfl, (by walk_at "side"), ?_⟩
  | refine ⟨_, _, rfl, rfl, ?_⟩
  | refine ⟨_, _, _, _, true, rfl, .ty _, .base (.int _), kit_ty (a := "int") (by decide +kernel), ?_⟩
  | refine ⟨_, _, _, _, false, rfl, .ty _, .base (.int _), kit_ty (a := "int") (by decide +kernel), ?_⟩
  | refine ⟨_, _, rfl, (by walk_at "sq"), ?_⟩
  | refine ⟨_, _, _, _, rfl, rfl, (by walk_at "sq"), (by first | rfl | assumption), ?_⟩
  | refine Or.inl ⟨_, _, _, _, rfl, rfl, (by walk_at "sq"), (by first | rfl | assumption), ?_⟩
  | refine Or.inr (Or.inl ⟨_, _, _, _, rfl, rfl, (by walk_at "sq"), (by first | rfl | assumption), ?_⟩)
  | refine ⟨_, _, rfl, Or.inl ⟨(by walk_at "sq"), ?_⟩⟩
  | refine ⟨rfl, ?_⟩
  | refine iteT ?_
  | refine iteF ?_
  | refine ⟨_, _, _, _, _, rfl, (by assumption), (by assumption), (by assumption), (by assumption), ?_⟩
  | refine Or.inl ⟨_, rfl, ?_⟩
  | refine Or.inr ⟨_, rfl, ?_⟩
  | refine ⟨_, _, rfl, (by walk_at "side"), ?_⟩
  | refine ⟨_, _, rfl, ?_⟩)
local macro_rules | `(tactic| walk_at "fld") => `(tactic| skip)
local macro_rules | `(tactic| walk_at "s") => `(tactic| repeat walk_at "1")
local macro_rules | `(tactic| walk_at "size") => `(tactic| first | exact Nat.le_of_ble_eq_true rfl | (simp only [List.length_map, List.length_append, List.length_cons, List.length_nil]; omega))
local macro_rules | `(tactic| walk_at "new") => `(tactic| (first | refine ⟨(by walk_at "size"), fun p hp => ?_⟩ | refine fun p hp => ?_); (generalize hq : upd _ p _ = H1); (obtain ⟨s, e⟩ := new_facts hp hq); clear hq)
theorem At9.mono {C : Addr} {σ σ' : L2.St} {H H' : Hp} {v : V} {p D : Addr} {m : DM} {G : Hp} (Z : At9 C σ H v p D m G) (s : Same H H') (h5 : σ'[5]? = some (some v)) (h7 : σ'[7]? = some (some (.ref p))) (h9 : σ'[9]? = some (some (.ref D))) : At9 C σ' H' v p D m G :=
  ⟨h5, h7, h9, Z.sG.trans s, Z.hF, Z.T, Z.B, Z.mo.same s, Z.due.same s⟩
def tBodyM (C : Addr) : TS := fun D σ H => ∃ (s0 s1 s2 s4 : Option V) (v : V) (y6 y7 y8 y9 y10 y11 : Option V) (L : Addr) (xs : List V) (G : Hp) (m : DM), σ = [s0, s1, s2, some (.ref L), s4, some v, y6, y7, y8, y9, y10, y11, none, none, none] ∧ Same G H ∧ G L = none ∧ ModF G v m ∧ TextDM m ∧ DMBase m ∧ H L = some (.lst xs) ∧ xs.length ≤ 100 ∧
  ∀ (H' : Hp) (t p : Addr) (z6 z7 z8 z9 z10 : Option V), Same G H' → KeepTI H H' → H' L = some (.lst (xs ++ [.ref t])) → H' t = some (.tup [.str (textM m), .ref p]) → MoDv C H' p m → D.nx [s0, s1, s2, some (.ref L), s4, some v, z6, z7, z8, z9, z10, y11, none, none, none] H'
section
variable {P : Program} {w : World} {K : PySem.W.Frag} {mg : Str → Option Value} {base : Heap} {C HC : Addr}
theorem body_eq : modBody = [nth modBody 0, nth modBody 1, nth modBody 2, nth modBody 3, nth modBody 4, nth modBody 5, nth modBody 6, nth modBody 7, nth modBody 8, nth modBody 9, nth modBody 10, nth modBody 11] := rfl
set_option maxHeartbeats 8000000 in
theorem blk_body {fa : Addr} {cdv : Value} {A : Around} {outer : List Env} {s : Shared} {Hx : Hp} {E : XK} (T : Txt mg) (Z0 : ModEq K mg C) (ZH : HouseEq K C HC) (oq : EqM P w K mg base C) (ot : StrM P w K mg base C) (RM : ReadM P w K mg base C)
    (o_House : Mks P w K mg base "House" HC 3 ["self", "modules"] (spInitH HC)) (o_Module : Mks P w K mg base "Module" C 6 ["self", "name", "inlets", "outlets", "stations", "links", "calls"] (spInitG C)) (o_law_shape : OwnG P w K mg base "_law_shape" 1 ["made"] (spShape K C))
    (o_law_text : Own P w K mg base "_law_text" 1 ["module"] spText9) (o_law_unlike : Own P w K mg base "_law_is_unlike_others" 8 ["module", "made"] (spUnlike K C)) (hr : Room 11 (A.deeper (envOfC "law" (defScope s_law) s.heap.objs.size fa cdv))) (gd : (A.deeper (envOfC "law" (defScope s_law) s.heap.objs.size fa cdv)).guards = some []) :
    PSs (cxOf CX0 P w K mg base ["script", "k", "box", "kept", "turn", "module", "lists", "made", "one", "due", "turned", "text", "word", "other", "mate"] "law" (defScope s_law) fa cdv A outer s Hx E).nox modBody (tBodyM C) := by
  rw [body_eq]
  refine pss_pre (pss_cons (blk_lists T hr) (pss_cons (blk_made o_Module hr) (pss_cons blk_app (pss_cons (blk_due T hr) (pss_cons (blk_shape T o_law_shape ot o_law_text hr gd) (pss_cons (blk_read Z0 oq RM o_law_text hr) (pss_cons (blk_again Z0 oq o_Module hr) (pss_cons (blk_odd T Z0 ZH oq ot o_House hr) (pss_cons (blk_turned o_Module hr) (pss_cons (blk_turnEq Z0 oq hr) (pss_cons (blk_unlike o_law_unlike hr) (pss_one (blk_keep (C := C) o_law_text hr))))))))))))) fun D σ H h => ?_
  obtain ⟨s0, s1, s2, s4, v, y6, y7, y8, y9, y10, y11, L, xs, G, m, rfl, sG, GL, hF, TT, B, eL, lx, k⟩ := h
  have R := TT.R
  refine ⟨v, G, m, rfl, rfl, sG, hF, fun _ => rfl, fun _ => ⟨rfl, rfl⟩, fun S zs H1 q1 nS eS hz hne => ?_⟩
  refine ⟨v, G, H, m, S, zs, rfl, rfl, sG.trans q1, hF, R.good, okS_name R.name, eS, hz, fun p H2 q2 mo => ?_⟩
  refine ⟨G, H, m, S, zs, y8, rfl, rfl, rfl, q1.trans q2, nS, q2 _ _ eS, hz.same q2, hne, fun y H3 kt q3 => ?_⟩
  have sG3 : Same G H3 := sG.trans q3
  refine ⟨v, G, m, rfl, rfl, sG3, hF, fun _ => rfl, fun _ => ⟨rfl, rfl⟩, fun Dd zs' H4 q4 nD eD hz' _ => ?_⟩
  have sG4 := sG3.trans q4
  have Z : At9 C [s0, s1, s2, some (.ref L), s4, some v, some (.ref S), some (.ref p), y, some (.ref Dd), y10, y11, none, none, none] H4 v p Dd m G := ⟨rfl, rfl, rfl, sG4, hF, TT, B, mo.keep (kt.trans (KeepTI.of q4)), due_of sG4 eD hz'⟩
  have kt4 : KeepTI H H4 := (KeepTI.of (q1.trans q2)).trans (kt.trans (KeepTI.of q4))
  have eL4 : H4 L = some (.lst xs) := q4 _ _ (q3 _ _ eL)
  refine ⟨v, p, Dd, m, G, Z, fun H5 q5 => ?_⟩
  refine ⟨v, p, Dd, m, G, Z.mono q5 rfl rfl rfl, fun H6 q6 => ?_⟩
  refine ⟨v, p, Dd, m, G, Z.mono (q5.trans q6) rfl rfl rfl, fun H7 q7 => ?_⟩
  refine ⟨v, p, Dd, m, G, Z.mono (q5.trans (q6.trans q7)) rfl rfl rfl, fun H8 q8 => ?_⟩
  have q48 := q5.trans (q6.trans (q7.trans q8))
  refine ⟨v, p, Dd, m, G, Z.mono q48 rfl rfl rfl, fun q H9 q9 mq => ?_⟩
  refine ⟨v, p, q, Dd, m, G, Z.mono (q48.trans q9) rfl rfl rfl, rfl, mq, fun H10 q10 => ?_⟩
  refine ⟨v, p, Dd, m, G, Z.mono (q48.trans (q9.trans q10)) rfl rfl rfl, fun H11 q11 => ?_⟩
  have q411 := q48.trans (q9.trans (q10.trans q11))
  refine ⟨v, p, m, G, L, xs, rfl, rfl, rfl, sG4.trans q411, hF, TT, q411 _ _ eL4, lx, fun t H12 H13 q12 et e13 => ?_⟩
  have q412 := q411.trans q12
  have eL12 := q412 _ _ eL4
  have kl : KeepTI H12 H13 := e13 ▸ KeepTI.upd eL12
  refine k H13 t p _ _ _ _ _ ?_ (kt4.trans ((KeepTI.of q412).trans kl)) (by rw [e13, upd_same]) (kl.tup _ _ et) ((Z.mo.same q412).keep kl)
  rw [e13]
  exact same_beside (sG4.trans q412) GL
/-! ## what is kept -/
def KeptAt (C : Addr) (H : Hp) (x : V) (m : DM) : Prop := ∃ t p, x = .ref t ∧ H t = some (.tup [.str (textM m), .ref p]) ∧ MoDv C H p m
def KeptAll (C : Addr) (H : Hp) (xs : List V) (ms : List DM) : Prop := xs.length = ms.length ∧ (∀ m ∈ ms, TextDM m) ∧ ∀ (j : Nat) (x : V), xs[j]? = some x → ∃ m, ms[j]? = some m ∧ KeptAt C H x m
theorem KeptAt.keep {C : Addr} {H H' : Hp} {x : V} {m : DM} (k : KeepTI H H') (h : KeptAt C H x m) : KeptAt C H' x m := by
  obtain ⟨t, p, e, q1, q2⟩ := h
  exact ⟨t, p, e, k.tup _ _ q1, q2.keep k⟩
theorem KeptAll.keep {C : Addr} {H H' : Hp} {xs : List V} {ms : List DM} (k : KeepTI H H') (h : KeptAll C H xs ms) : KeptAll C H' xs ms := ⟨h.1, h.2.1, fun j x hx => by
  obtain ⟨m, hm, q⟩ := h.2.2 j x hx
  exact ⟨m, hm, q.keep k⟩⟩
theorem KeptAll.snoc {C : Addr} {H : Hp} {xs : List V} {ms : List DM} {x : V} {m : DM} (h : KeptAll C H xs ms) (T : TextDM m) (q : KeptAt C H x m) : KeptAll C H (xs ++ [x]) (ms ++ [m]) := by
  refine ⟨by rw [List.length_append, List.length_append, h.1]; rfl, fun m' hm => ?_, fun j y hy => ?_⟩
  · rcases List.mem_append.mp hm with hm | hm
    · exact h.2.1 m' hm
    · rw [List.mem_singleton.mp hm]
      exact T
  · rcases Nat.lt_or_ge j xs.length with hlt | hge
    · rw [List.getElem?_append_left hlt] at hy
      obtain ⟨m', hm, q'⟩ := h.2.2 j y hy
      exact ⟨m', by rw [List.getElem?_append_left (by rw [← h.1]; exact hlt)]; exact hm, q'⟩
    · rw [List.getElem?_append_right hge] at hy
      have ej : j - xs.length = 0 := by
        have := (List.getElem?_eq_some_iff.mp hy).1
        simp at this
        omega
      rw [ej] at hy
      cases hy
      refine ⟨m, ?_, q⟩
      rw [List.getElem?_append_right (by rw [← h.1]; exact hge), ← h.1, ej]
      rfl
abbrev keptBody : List Stmt := forBody (nth (forBody (nth (defBody s_law) 0)) 3)
def tKept (C : Addr) : TS := fun D σ H => ∃ (s0 s1 s2 s4 s5 : Option V) (y6 y8 y9 y10 : Option V) (L p : Addr) (xs : List V) (ms : List DM) (m : DM), σ = [s0, s1, s2, some (.ref L), s4, s5, y6, some (.ref p), y8, y9, y10, some (.str (textM m)), none, none, none] ∧ H L = some (.lst xs) ∧ KeptAll C H xs ms ∧ ms.length ≤ 100 ∧ TextDM m ∧ MoDv C H p m ∧ ∀ H', Same H H' → D.nx σ H'
set_option maxHeartbeats 8000000 in
theorem blk_kept {fa : Addr} {cdv : Value} {A : Around} {outer : List Env} {s : Shared} {Hx : Hp} {E : XK} (Z0 : ModEq K mg C) (oq : EqM P w K mg base C) (hr : Room 11 (A.deeper (envOfC "law" (defScope s_law) s.heap.objs.size fa cdv))) :
    PSs (cxOf CX0 P w K mg base ["script", "k", "box", "kept", "turn", "module", "lists", "made", "one", "due", "turned", "text", "word", "other", "mate"] "law" (defScope s_law) fa cdv A outer s Hx E).nox keptBody (tKept C) := by
  refine pss_pre (pss_one (ps_if (pt_cmpR (op_neN hr.units) (pe_lc (own := [("other", 13), ("mate", 14)]) (g := gTup K 2 (gCons (gName 13) (gCons (gName 14) gNil))) (te := tC (.int 1)) (tt := (tTest (tOp rNe (tOp (rEqOwn K C (spEqM K C) E0) (tVar 7) (tVar 14)) (tOp rEq (tVar 11) (tVar 13))))) rfl sc_law.nd (pi_list (pv 3)) (blkOk_by (own := [("other", 13), ("mate", 14)]) (N := ["script", "k", "box", "kept", "turn", "module", "lists", "made", "one", "due", "turned", "text", "word", "other", "mate"]) (sc := defScope s_law) (by decide +kernel)) (fun _ _ _ _ _ => (pg_tup (by rfl) (pgs_cons (pg_name (i := 13) sc_law.nd rfl (Or.inl rfl)) (pgs_cons (pg_name (i := 14) sc_law.nd rfl (Or.inl rfl)) pgs_nil)))) (fun _ _ _ _ _ => (pts_one (pt_cmpR op_ne (pe_cmpR (op_eqM oq Z0 (hr.mono (by decide))) (pv 7) (pv 14) (nomark _)) (pe_cmpR op_eq (pv 11) (pv 13) (nomark _)) (nomark _)))) (fun _ _ _ _ _ => pe_int)) (pe_lst pa_nil) (nomark _))
            (pss_one (ps_ret pe_bl))
            pss_nil)) fun D σ H h => ?_
  obtain ⟨s0, s1, s2, s4, s5, y6, y8, y9, y10, L, p, xs, ms, m, rfl, eL, hK, lm, TT, mo, k⟩ := h
  refine ⟨_, rfl, L, rfl, ⟨_, SqL.of eL⟩, fun M nM => lc_seq (seqIt_l (SqL.of eL)) (fun i H' => Same H H' ∧ H' M = some (.lst [])) ⟨same_upd nM, upd_same⟩ (fun i H' q => q.1) ?_ ?_⟩
  · rintro i x H' hx ⟨q1, q2⟩
    obtain ⟨m', hm, ht⟩ := hK.2.2 i x hx
    obtain ⟨t, p', rfl, et, mo'⟩ := ht.keep (KeepTI.of q1)
    have T' := hK.2.1 m' (List.mem_of_getElem? hm)
    refine ⟨t, _, rfl, SqT.of et, rfl, _, _, rfl, _, _, rfl, rfl, rfl, _, rfl, _, rfl, rd_eqMod Z0 (mo.same q1).mo mo'.mo TT.R.can T'.R.can ?_⟩
    refine ⟨_, rfl, _, rfl, rfl, rfl, _, rfl, ?_⟩
    rw [decS, text_dec TT T', decide_eq_true (show V.bl (decide (m = m')) = V.bl (decide (m = m')) from rfl)]
    refine iteF ?_
    exact ⟨q1, q2⟩
  · rintro H2 ⟨q1, q2⟩
    refine ⟨Nat.zero_le _, fun e0 me0 => ?_⟩
    generalize hq : upd H2 e0 _ = H3
    obtain ⟨q3, ee⟩ := new_facts me0 hq
    clear hq
    refine ⟨M, e0, [], rfl, rfl, SqL.of (q3 _ _ q2), SqL.of ee, _, rfl, ?_⟩
    refine iteF ?_
    exact k H3 (q1.trans q3)
end
end My

namespace My
open PySem PySem.Spec PyProof.Rows L2
local macro_rules | `(tactic| walk_at "side") => `(tactic| first | (dsimp only; omega) | exact ⟨by omega, by omega⟩ | exact Or.inl ⟨by omega, by omega⟩ | exact Or.inr ⟨by omega, by omega⟩ | decide)
local macro_rules | `(tactic| walk_at "sq") => `(tactic| first | assumption | exact SqL.of (by assumption) | exact SqT.of (by assumption) | (refine L2.Same.seq (by assumption) ?_; walk_at "sq") | (refine L2.Same.seqT (by assumption) ?_; walk_at "sq") | exact Or.inl (by walk_at "sq") | exact Or.inr (by walk_at "sq"))
local macro_rules | `(tactic| walk_at "1") => `(tactic| first
  | refine ⟨_, rfl, iteT ?_⟩
  | refine ⟨_, rfl, iteF ?_⟩
  | refine ⟨_, rfl, ?_⟩
  | refine ⟨_, _, rfl, rfl, (by walk_at "side"), ?_⟩
  | refine ⟨_, _, rfl, rfl, ?_⟩
  | refine ⟨_, _, _, _, true, rfl, .ty _, .base (.int _), kit_ty (a := "int") (by decide +kernel), ?_⟩
  | refine ⟨_, _, _, _, false, rfl, .ty _, .base (.int _), kit_ty (a := "int") (by decide +kernel), ?_⟩
  | refine ⟨_, _, rfl, (by walk_at "sq"), ?_⟩
  | refine ⟨_, _, _, _, rfl, rfl, (by walk_at "sq"), (by first | rfl | assumption), ?_⟩
  | refine Or.inl ⟨_, _, _, _, rfl, rfl, (by walk_at "sq"), (by first | rfl | assumption), ?_⟩
  | refine Or.inr (Or.inl ⟨_, _, _, _, rfl, rfl, (by walk_at "sq"), (by first | rfl | assumption), ?_⟩)
  | refine ⟨_, _, rfl, Or.inl ⟨(by walk_at "sq"), ?_⟩⟩
  | refine ⟨rfl, ?_⟩
  | refine iteT ?_
  | refine iteF ?_
  | refine ⟨_, _, _, _, _, rfl, (by assumption), (by assumption), (by assumption), (by assumption), ?_⟩
  | refine Or.inl ⟨_, rfl, ?_⟩
  | refine Or.inr ⟨_, rfl, ?_⟩
  | refine ⟨_, _, rfl, (by walk_at "side"), ?_⟩
  | refine ⟨_, _, rfl, ?_⟩)
local macro_rules | `(tactic| walk_at "fld") => `(tactic| skip)
local macro_rules | `(tactic| walk_at "s") => `(tactic| repeat walk_at "1")
local macro_rules | `(tactic| walk_at "size") => `(tactic| first | exact Nat.le_of_ble_eq_true rfl | (simp only [List.length_map, List.length_append, List.length_cons, List.length_nil]; omega))
local macro_rules | `(tactic| walk_at "new") => `(tactic| (first | refine ⟨(by walk_at "size"), fun p hp => ?_⟩ | refine fun p hp => ?_); (generalize hq : upd _ p _ = H1); (obtain ⟨s, e⟩ := new_facts hp hq); clear hq)
/-- a class that is made with one default -/
structure MksD (P : Program) (w : World) (K : PySem.W.Frag) (mg : Str → Option Value) (base : Heap) (x : Str) (C : Addr) (k : Nat) (ps : List Str) (dv : V) (sp : Sp) : Prop where
  ex : ∃ f fd ds, FnOk P w K mg base CX0 k f fd ps sp ∧ mg x = some (.ref C) ∧ Mk K C f ∧ Binds K fd ps ds ∧ Vals [dv] ds
theorem pe_mksD {X : Cx} {x : Str} {p pos : Pos} {e : Expr} {es : List Expr} {t : TA} {k : Nat} {ps : List Str} {sp : Sp} {C : Addr} {dv : V} (O : MksD X.prog X.w X.K X.mg X.base x C k ps dv sp) (hr : Room (k + 1) X.A) (ha : PA X (e :: es) t) (hg : Gl X x := by exact rfl) (hdb : (x == ("__debug__" : Str)) = false := by decide)
    (he : starEach (e :: es) X.env = (false, eval e X.env) :: starEach es X.env := by rfl) (hpl : (backTo pos (starEach es X.env)).any (·.1) = false := by rfl) : PE X (.Call (.Name x p) (e :: es) [] pos) (tMake C sp [dv] E0 t) := by
  obtain ⟨f, fd, ds, G, hm, M, hb, hv⟩ := O.ex
  exact pe_make M G hr hg hm hb hv pass0 ha hdb he hpl
def m0 : DM := { name := "a", inl := [], out := [], sta := [], calls := [], links := [] }
theorem m0_good : GoodDM m0 := ⟨by decide +kernel, ⟨fun x hx => (by cases hx), fun x hx => (by cases hx), fun x hx => (by cases hx), fun x hx => (by cases hx), fun x hx => (by cases hx)⟩⟩
section
variable {P : Program} {w : World} {K : PySem.W.Frag} {mg : Str → Option Value} {base : Heap} {C HC u : Addr}
def spLaw (K : PySem.W.Frag) : Sp := fun vs H Q _ => ∃ (a : Addr) (ns : List Int), vs = [.ref a] ∧ SqL K H a (ns.map V.int) ∧ ns.length ≤ 63 ∧ ∀ H', Q (.bl true) H'
set_option maxHeartbeats 16000000 in
theorem ok_law {fa : Addr} {fd : FuncData} (F : Fun K "law" "law" s_law fa fd) (T : Txt mg) (Z0 : ModEq K mg C) (ZH : HouseEq K C HC) (U : KEmp K u) (oq : EqM P w K mg base C) (ot : StrM P w K mg base C) (RM : ReadM P w K mg base C)
    (o_House : Mks P w K mg base "House" HC 3 ["self", "modules"] (spInitH HC)) (o_Module : Mks P w K mg base "Module" C 6 ["self", "name", "inlets", "outlets", "stations", "links", "calls"] (spInitG C)) (o_ModU : MksD P w K mg base "Module" C 6 ["self", "name", "inlets", "outlets", "stations", "links", "calls"] (.ref u) (spInitU C u))
    (o_law_shape : OwnG P w K mg base "_law_shape" 1 ["made"] (spShape K C)) (o_law_text : Own P w K mg base "_law_text" 1 ["module"] spText9) (o_law_unlike : Own P w K mg base "_law_is_unlike_others" 8 ["module", "made"] (spUnlike K C))
    (o_law_box : Own P w K mg base "_law_box" 1 ["script", "k", "own"] (spBox K)) (o_law_house : Own P w K mg base "_law_house" 5 ["box", "many"] spHouse) : MyG.FnG P w K mg base 12 fa fd ["script"] (spLaw K) := by
  refine MyG.okG F sc_law (fun vs H Q E h => ?_) (fun cdv A outer s H vs Q E hr gd h => ?_)
  · obtain ⟨_, _, rfl, _⟩ := h
    rfl
  · obtain ⟨a, ns, rfl, hS, hlen, k⟩ := h
    refine ⟨_, (pss_cons (ps_for PassesOwn.never rfl (pi_range1 (by rfl) T.range (pa_cons (pe_callB (call_max2 rfl) (by rfl) T.max (by decide +kernel) (pa_cons pe_int (pa_cons (pe_callB (call_min2 rfl) (by rfl) T.min (by decide +kernel) (pa_cons pe_int (pa_cons (pe_callB call_len_seq (by rfl) T.len PySem.boot_len (pa_cons (pv 0) pa_nil)) pa_nil))) pa_nil))) pa_nil)) (pg_name (i := 1) sc_law.nd rfl (Or.inl rfl))
    (pss_cons (ps_set (i := 2) sc_law.nd rfl (Or.inl rfl) (pe_own o_law_box (hr.mono (by decide)) (pa_cons (pv 0) (pa_cons (pv 1) (pa_cons pe_int pa_nil)))))
      (pss_cons (ps_set (i := 3) sc_law.nd rfl (Or.inl rfl) (pe_lst pa_nil))
      (pss_cons (ps_for PassesOwn.never rfl (pi_range1 (by rfl) T.range (pa_cons pe_int pa_nil)) (pg_name (i := 4) sc_law.nd rfl (Or.inl rfl))
        (pss_one (ps_for PassesOwn.never rfl (pi_list (pe_own o_law_house (hr.mono (by decide)) (pa_cons (pv 2) (pa_cons pe_int pa_nil)))) (pg_name (i := 5) sc_law.nd rfl (Or.inr rfl))
            (blk_body T Z0 ZH oq ot RM o_House o_Module o_law_shape o_law_text o_law_unlike hr gd))))
      (pss_one (ps_for PassesOwn.never rfl (pi_list (pv 3)) (pg_tup (by rfl) (pgs_cons (pg_name (i := 11) sc_law.nd rfl (Or.inr rfl)) (pgs_cons (pg_name (i := 7) sc_law.nd rfl (Or.inr rfl)) pgs_nil)))
        (blk_kept Z0 oq hr)))))))
  (pss_one (ps_ret (pe_cmpR (op_eqM oq Z0 (hr.mono (by decide))) (pe_mksD o_ModU (hr.mono (by decide)) (pa_cons pe_str (pa_cons (pe_lst pa_nil) (pa_cons (pe_lst pa_nil) (pa_cons (pe_lst pa_nil) (pa_cons (pe_lst pa_nil) pa_nil)))))) (pe_mks o_Module (hr.mono (by decide)) (pa_cons pe_str (pa_cons (pe_tup pa_nil) (pa_cons (pe_tup pa_nil) (pa_cons (pe_tup pa_nil) (pa_cons (pe_tup pa_nil) (pa_cons (pe_tup pa_nil) pa_nil))))))) (nomark _))))), ?_⟩
    refine ⟨_, rfl, a, _, rfl, Or.inl hS, _, _, rfl, _, _, rfl, _, rfl, ?_⟩
    have hN : 1 ≤ (if (if ((ns.map V.int).length : Int) < 2 then ((ns.map V.int).length : Int) else 2) > 1 then (if ((ns.map V.int).length : Int) < 2 then ((ns.map V.int).length : Int) else 2) else 1) ∧ (if (if ((ns.map V.int).length : Int) < 2 then ((ns.map V.int).length : Int) else 2) > 1 then (if ((ns.map V.int).length : Int) < 2 then ((ns.map V.int).length : Int) else 2) else 1) ≤ 2 := by
      split <;> split at * <;> omega
    generalize (if (if ((ns.map V.int).length : Int) < 2 then ((ns.map V.int).length : Int) else 2) > 1 then (if ((ns.map V.int).length : Int) < 2 then ((ns.map V.int).length : Int) else 2) else 1) = N at hN ⊢
    refine ⟨by omega, by omega, for_range (lo := 0) (n := N.toNat) (fun i σ' H' => ∃ y1 y2 y3 y4 y5 y6 y7 y8 y9 y10 y11, σ' = [some (.ref a), y1, y2, y3, y4, y5, y6, y7, y8, y9, y10, y11, none, none, none] ∧ Same H H') ⟨none, none, none, none, none, none, none, none, none, none, none, rfl, Same.refl _⟩ ?_ ?_⟩
    · rintro i σ' H2 hi ⟨y1, y2, y3, y4, y5, y6, y7, y8, y9, y10, y11, rfl, s2⟩
      rw [Int.zero_add]
      refine ⟨_, rfl, _, rfl, a, ns, i, 9, rfl, s2.seq hS, hlen, fun H3 b s3 nb hb => ?_⟩
      refine ⟨Nat.zero_le _, fun L nL => ?_⟩
      generalize hq : upd H3 L _ = H4
      obtain ⟨s4, eL⟩ := new_facts nL hq
      clear hq
      have nb2 : H b = none := s2.free nb
      have Lb : L ≠ b := hb.ne nL
      have nLH : H L = none := (s2.trans s3).free nL
      have sH4 : Same H H4 := s2.trans (s3.trans s4)
      have hb4 := hb.same s4
      obtain ⟨G0, hG0⟩ : ∃ G, G = off b (off L H4) := ⟨_, rfl⟩
      have sHG : Same H G0 := hG0 ▸ off_to (off_to sH4 nLH) nb2
      have sG4 : Same G0 H4 := hG0 ▸ (off_same.trans off_same)
      have Gb : G0 b = none := hG0 ▸ off_at
      have GL : G0 L = none := by rw [hG0, off_ne Lb]; exact off_at
      refine ⟨_, rfl, by decide, by decide, for_range (lo := 0) (n := 1) (fun j σ' H' => ∃ y4 y5 y6 y7 y8 y9 y10 y11, σ' = [some (.ref a), some (.int (i : Nat)), some (.ref b), some (.ref L), y4, y5, y6, y7, y8, y9, y10, y11, none, none, none] ∧ ((j = 0 ∧ H' = H4) ∨ j = 1 ∧ ∃ xs ms, Same H H' ∧ H' L = some (.lst xs) ∧ KeptAll C H' xs ms ∧ ms.length ≤ 2)) ⟨y4, y5, y6, y7, y8, y9, y10, y11, rfl, Or.inl ⟨rfl, rfl⟩⟩ ?_ ?_⟩
      · rintro j σ' H5 hj ⟨y4, y5, y6, y7, y8, y9, y10, y11, rfl, hc⟩
        rcases hc with ⟨_, e5⟩ | hc
        · rw [e5]
          clear e5
          refine ⟨_, rfl, b, 2, G0, rfl, by decide, sG4, hb4, Gb, fun G1 H6 p ws ms g6 ep hM hO hl => ?_⟩
          have G1L : G1 L = none := g6.new _ _ eL GL
          have eL6 : H6 L = some (.lst []) := g6.bx _ _ Lb eL
          refine ⟨p, rfl, ⟨_, SqL.of (g6.gh _ _ ep)⟩, for_seq (H0 := G1) (seqIt_l (SqL.of ep)) (fun l σ' H' => ∃ y5 y6 y7 y8 y9 y10 xs, σ' = [some (.ref a), some (.int (i : Nat)), some (.ref b), some (.ref L), some (.int (0 + (j : Int))), y5, y6, y7, y8, y9, y10, y11, none, none, none] ∧ Same G1 H' ∧ H' L = some (.lst xs) ∧ KeptAll C H' xs (ms.take l)) ⟨y5, y6, y7, y8, y9, y10, [], rfl, g6.gh, eL6, rfl, fun m hm => (by cases hm), fun j x hx => (by cases hx)⟩ (fun l σ' H' q => by obtain ⟨_, _, _, _, _, _, _, _, q, _⟩ := q; exact q) ?_ ?_⟩
          · rintro l x σ' H7 hx ⟨y5, y6, y7, y8, y9, y10, xs, rfl, s7, eL7, hK⟩
            obtain ⟨m, hm, hF⟩ := hM.get hx
            obtain ⟨ms', M, O⟩ := hO.ok m (List.mem_of_getElem? hm)
            have lx : xs.length ≤ 100 := by rw [hK.1, List.length_take]; omega
            refine ⟨_, _, _, _, x, y6, y7, y8, y9, y10, y11, L, xs, G1, m, rfl, s7, G1L, hF, text_dm M O, O.base, eL7, lx, fun H8 t p z6 z7 z8 z9 z10 s8 kt e8 et mo => ?_⟩
            refine ⟨_, z6, z7, z8, z9, z10, _, rfl, s8, e8, ?_⟩
            rw [List.take_add_one, hm]
            exact (hK.keep kt).snoc (text_dm M O) ⟨t, p, rfl, et, mo⟩
          · rintro σ' H7 ⟨y5, y6, y7, y8, y9, y10, xs, rfl, s7, eL7, hK⟩
            refine ⟨_, y5, y6, y7, y8, y9, y10, y11, rfl, Or.inr ⟨by omega, xs, _, (sHG.trans g6.gs).trans s7, eL7, hK, ?_⟩⟩
            rw [List.length_take]
            omega
        · exact absurd hc.1 (by omega)
      · rintro σ' H5 ⟨y4, y5, y6, y7, y8, y9, y10, y11, rfl, hc⟩
        rcases hc with ⟨h, _⟩ | ⟨_, xs, ms, q1, q2, q3, q4⟩
        · exact absurd h (by decide)
        · refine ⟨_, rfl, L, rfl, ⟨_, SqL.of q2⟩, for_seq (H0 := H5) (seqIt_l (SqL.of q2)) (fun l σ' H' => ∃ y7 y11, σ' = [some (.ref a), some (.int (i : Nat)), some (.ref b), some (.ref L), y4, y5, y6, y7, y8, y9, y10, y11, none, none, none] ∧ Same H5 H') ⟨y7, y11, rfl, Same.refl _⟩ (fun l σ' H' q => by obtain ⟨_, _, _, q⟩ := q; exact q) ?_ ?_⟩
          · rintro l x σ' H6 hx ⟨y7, y11, rfl, s6⟩
            obtain ⟨m, hm, ht⟩ := q3.2.2 l x hx
            obtain ⟨t, p, rfl, et, mo⟩ := ht.keep (KeepTI.of s6)
            refine ⟨t, _, rfl, SqT.of et, rfl, _, _, rfl, _, _, rfl, rfl, ?_⟩
            exact ⟨_, _, _, _, _, y6, y8, y9, y10, L, p, xs, ms, m, rfl, s6 _ _ q2, q3.keep (KeepTI.of s6), by omega, q3.2.1 m (List.mem_of_getElem? hm), mo, fun H7 s7 => ⟨_, _, rfl, s6.trans s7⟩⟩
          · rintro σ' H6 ⟨y7, y11, rfl, s6⟩
            exact ⟨_, _, _, y4, y5, y6, y7, y8, y9, y10, y11, rfl, q1.trans s6⟩
    · rintro σ' H2 ⟨y1, y2, y3, y4, y5, y6, y7, y8, y9, y10, y11, rfl, s2⟩
      refine ⟨Nat.zero_le _, fun a1 n1 => ?_⟩
      generalize hq : upd H2 a1 _ = H3
      obtain ⟨t3, e1⟩ := new_facts n1 hq
      clear hq
      refine ⟨Nat.zero_le _, fun a2 n2 => ?_⟩
      generalize hq : upd H3 a2 _ = H4
      obtain ⟨t4, e2⟩ := new_facts n2 hq
      clear hq
      refine ⟨Nat.zero_le _, fun a3 n3 => ?_⟩
      generalize hq : upd H4 a3 _ = H5
      obtain ⟨t5, e3⟩ := new_facts n3 hq
      clear hq
      refine ⟨Nat.zero_le _, fun a4 n4 => ?_⟩
      generalize hq : upd H5 a4 _ = H6
      obtain ⟨t6, e4⟩ := new_facts n4 hq
      clear hq
      refine fun x dx nx ndx nex => ?_
      refine ⟨H6, x, dx, "a", a1, a2, a3, a4, rfl, nx, fun c o e => by rw [upd_ne (ne_of_none e nx), upd_ne (ne_of_none e ndx)]; exact e, upd_same, by decide, (t4.trans (t5.trans t6)) _ _ e1, (t5.trans t6) _ _ e2, t6 _ _ e3, e4, fun H7 u1 u2 u3 u4 s7 ex f1 f2 f3 f4 => ⟨rfl, ?_⟩⟩
      have M0 : MoAt K C H7 x m0 := ⟨dx, u1, u2, u3, u4, u, ex, .tup (SqT.of f1) .nil, .tup (SqT.of f2) .nil, .tup (SqT.of f3) .nil, .tup (SqT.of f4) .nil, .tup (U.sq H7) .nil⟩
      refine ⟨Nat.zero_le _, fun b1 k1 => ?_⟩
      generalize hq : upd H7 b1 _ = H8
      obtain ⟨r8, c1⟩ := new_facts k1 hq
      clear hq
      refine ⟨Nat.zero_le _, fun b2 k2 => ?_⟩
      generalize hq : upd H8 b2 _ = H9
      obtain ⟨r9, c2⟩ := new_facts k2 hq
      clear hq
      refine ⟨Nat.zero_le _, fun b3 k3 => ?_⟩
      generalize hq : upd H9 b3 _ = H10
      obtain ⟨r10, c3⟩ := new_facts k3 hq
      clear hq
      refine ⟨Nat.zero_le _, fun b4 k4 => ?_⟩
      generalize hq : upd H10 b4 _ = H11
      obtain ⟨r11, c4⟩ := new_facts k4 hq
      clear hq
      refine ⟨Nat.zero_le _, fun b5 k5 => ?_⟩
      generalize hq : upd H11 b5 _ = H12
      obtain ⟨r12, c5⟩ := new_facts k5 hq
      clear hq
      have emp : ∀ {t : Addr}, H12 t = some (.tup []) → Dv H12 (.ref t) (.tuple []) := fun e => .tup e .nil (Nat.zero_le _)
      refine fun x' dx' nx' ndx' nex' => rd_makeX (C := C) (m := m0) nx' ndx' nex' m0_good (⟨_, _, _, _, _, _, _, _, _, _, rfl, by decide +kernel, emp ((r9.trans (r10.trans (r11.trans r12))) _ _ c1), emp ((r10.trans (r11.trans r12)) _ _ c2), emp ((r11.trans r12) _ _ c3), emp (r12 _ _ c4), emp c5, Or.inr rfl, Or.inr rfl, Or.inr rfl, Or.inr rfl, Or.inr rfl⟩) fun H13 s13 mo => ?_
      refine rd_eqMod Z0 (MoAt.same ((r8.trans (r9.trans (r10.trans (r11.trans r12)))).trans s13) M0) mo.mo m0_good.can m0_good.can ?_
      rw [decide_eq_true rfl]
      exact k H13
end
end My

set_option linter.all false
namespace My
open PySem PySem.Spec PyProof.Rows L2
section
variable {K : PySem.W.Frag} {h : Heap} {mg : Str → Option Value}
theorem df_mk {x : Str} {st : Stmt} {ps : List Str} {f : Addr} {oc : Value} {od an : Option Addr} {osl : Array (Option Value)} {kV doc pm cdv ct : Value} (X : K.In h) (G : h.Ns mainGlobals mg)
    (a : PySem.W.nsIn K mainGlobals x = some (some (.ref f)))
    (l : K.lookup f = some ⟨oc, od, .func (PySem.W.fnOf x x (defArgs st) (defBody st) (defScope st) .none kV doc pm an cdv ct), osl⟩) (c : PySem.W.codeIn K cdv x = true) (k : PySem.W.keepIn K (.ref f) = true)
    (hb : ∀ (kV doc pm : Value) (an : Option Addr) (cdv ct : Value) (us : List Value), us.length = ps.length → bindArgs (PySem.W.fnOf x x (defArgs st) (defBody st) (defScope st) .none kV doc pm an cdv ct) ⟨us, []⟩ = pure (ps.zip us)) : Df K mg x st ps :=
  ⟨f, _, fun_mk l c k, PySem.W.mg_of X G a, (fun_mk l c k).binds hb⟩
/-- a method of the class -/
structure DfM (K : PySem.W.Frag) (C : Addr) (x qual : Str) (st : Stmt) (ps : List Str) : Prop where
  ex : ∃ f fd, Fun K x qual st f fd ∧ Meth K C x f ∧ Binds K fd ps []
theorem dfm_mk {C : Addr} {x qual : Str} {st : Stmt} {ps : List Str} {f : Addr} {oc : Value} {od an : Option Addr} {osl : Array (Option Value)} {kV doc pm cdv ct : Value}
    (a : PySem.W.findIn K (.ref C) x = some (some (.ref f))) (i : PySem.W.isFn K (.ref f) = true)
    (l : K.lookup f = some ⟨oc, od, .func (PySem.W.fnOf x qual (defArgs st) (defBody st) (defScope st) .none kV doc pm an cdv ct), osl⟩) (c : PySem.W.codeIn K cdv qual = true) (k : PySem.W.keepIn K (.ref f) = true)
    (hb : ∀ (kV doc pm : Value) (an : Option Addr) (cdv ct : Value) (us : List Value), us.length = ps.length → bindArgs (PySem.W.fnOf x qual (defArgs st) (defBody st) (defScope st) .none kV doc pm an cdv ct) ⟨us, []⟩ = pure (ps.zip us)) : DfM K C x qual st ps :=
  ⟨f, _, fun_mk l c k, ⟨a, i, k⟩, (fun_mk l c k).binds hb⟩
theorem dfa_mk {x y : Str} {st : Stmt} {ps : List Str} {f : Addr} {oc : Value} {od an : Option Addr} {osl : Array (Option Value)} {kV doc pm cdv ct : Value} (X : K.In h) (G : h.Ns mainGlobals mg)
    (a : PySem.W.nsIn K mainGlobals x = some (some (.ref f)))
    (l : K.lookup f = some ⟨oc, od, .func (PySem.W.fnOf y y (defArgs st) (defBody st) (defScope st) .none kV doc pm an cdv ct), osl⟩) (c : PySem.W.codeIn K cdv y = true) (k : PySem.W.keepIn K (.ref f) = true)
    (hb : ∀ (kV doc pm : Value) (an : Option Addr) (cdv ct : Value) (us : List Value), us.length = ps.length → bindArgs (PySem.W.fnOf y y (defArgs st) (defBody st) (defScope st) .none kV doc pm an cdv ct) ⟨us, []⟩ = pure (ps.zip us)) : DfA K mg x y st ps :=
  ⟨f, _, fun_mk l c k, PySem.W.mg_of X G a, (fun_mk l c k).binds hb⟩
/-- the class of modules with its __init__, which has one default -/
structure DfI (K : PySem.W.Frag) (mg : Str → Option Value) (C u : Addr) : Prop where
  ex : ∃ f fd ds, FunD K "__init__" "Module.__init__" (defArgs s_Module_init) (defBody s_Module_init) (defScope s_Module_init) [.ref u] [] f fd ∧ Mk K C f ∧ mg "Module" = some (.ref C) ∧ Binds K fd ["self", "name", "inlets", "outlets", "stations", "links", "calls"] [] ∧ Binds K fd ["self", "name", "inlets", "outlets", "stations", "links", "calls"] ds ∧ Vals [.ref u] ds ∧ KEmp K u
theorem dfi_mk {C Td u : Addr} {f : Addr} {oc : Value} {od an : Option Addr} {osl : Array (Option Value)} {kV doc pm cdv ct : Value} {o oe : Obj} {n ne : Nat} (X : K.In h) (G : h.Ns mainGlobals mg)
    (aC : PySem.W.nsIn K mainGlobals "Module" = some (some (.ref C))) (a : PySem.W.findIn K (.ref C) "__init__" = some (some (.ref f))) (i : PySem.W.isFn K (.ref f) = true) (mk : PySem.W.makesIn K C = true) (kc : PySem.W.keepIn K (.ref C) = true)
    (l : K.lookup f = some ⟨oc, od, .func (PySem.W.fnOf "__init__" "Module.__init__" (defArgs s_Module_init) (defBody s_Module_init) (defScope s_Module_init) (.ref Td) kV doc pm an cdv ct), osl⟩) (lT : K.lookup Td = some o) (oT : o.data = .seq [Value.ref u].toArray n)
    (le : K.lookup u = some oe) (ce : oe.cls = .type "tuple") (de : oe.data = .seq ([] : List Value).toArray ne)
    (c : PySem.W.codeIn K cdv "Module.__init__" = true) (k : PySem.W.keepIn K (.ref f) = true) : DfI K mg C u := by
  have F : FunD K "__init__" "Module.__init__" (defArgs s_Module_init) (defBody s_Module_init) (defScope s_Module_init) [.ref u] [] f (PySem.W.fnOf "__init__" "Module.__init__" (defArgs s_Module_init) (defBody s_Module_init) (defScope s_Module_init) (.ref Td) kV doc pm an cdv ct) :=
    ⟨⟨oc, od, .ref Td, kV, doc, pm, an, cdv, ct, osl, rfl, l, c, Or.inr ⟨by simp, Td, o, [Value.ref u], n, rfl, lT, oT, .cons rfl .nil⟩, Or.inl rfl⟩, k⟩
  obtain ⟨ds, v, b⟩ := F.binds1 (ps := ["self", "name", "inlets", "outlets", "stations", "links", "calls"]) 7 1 (by simp) (by simp) (fun _ _ _ _ _ _ _ us its hl h1 => match us, hl, its, h1 with | [_, _, _, _, _, _, _], _, [_], _ => ⟨_, rfl, rfl⟩)
  cases v
  obtain ⟨ds1, v1, b1⟩ := F.binds1 (ps := ["self", "name", "inlets", "outlets", "stations", "links", "calls"]) 6 0 (by simp) (by simp) (fun _ _ _ _ _ _ _ us its hl h1 => match us, hl, its, h1 with | [_, _, _, _, _, _], _, [_], _ => ⟨_, rfl, rfl⟩)
  exact ⟨f, _, ds1, F, ⟨mk, a, i, kc⟩, PySem.W.mg_of X G aC, b, b1, v1, ⟨fun H => Or.inr ⟨oe, _, ne, le, ce, de, Nat.zero_le _, .nil⟩, fun H => .kTuple le ce⟩⟩
/-- the class of houses with its __init__ -/
structure DfH (K : PySem.W.Frag) (mg : Str → Option Value) (C : Addr) : Prop where
  ex : ∃ f fd, Fun K "__init__" "House.__init__" s_House_init f fd ∧ Mk K C f ∧ mg "House" = some (.ref C) ∧ Binds K fd ["self", "modules"] []
theorem dfh_mk {C : Addr} {f : Addr} {oc : Value} {od an : Option Addr} {osl : Array (Option Value)} {kV doc pm cdv ct : Value} (X : K.In h) (G : h.Ns mainGlobals mg)
    (aC : PySem.W.nsIn K mainGlobals "House" = some (some (.ref C))) (a : PySem.W.findIn K (.ref C) "__init__" = some (some (.ref f))) (i : PySem.W.isFn K (.ref f) = true) (mk : PySem.W.makesIn K C = true) (kc : PySem.W.keepIn K (.ref C) = true)
    (l : K.lookup f = some ⟨oc, od, .func (PySem.W.fnOf "__init__" "House.__init__" (defArgs s_House_init) (defBody s_House_init) (defScope s_House_init) .none kV doc pm an cdv ct), osl⟩)
    (c : PySem.W.codeIn K cdv "House.__init__" = true) (k : PySem.W.keepIn K (.ref f) = true) : DfH K mg C :=
  ⟨f, _, fun_mk (st := s_House_init) l c k, ⟨mk, a, i, kc⟩, PySem.W.mg_of X G aC, (fun_mk (st := s_House_init) l c k).binds (fun _ _ _ _ _ _ us hl => match us, hl with | [_, _], _ => rfl)⟩
/-- Module.read, a staticmethod -/
structure DfR (K : PySem.W.Frag) (C : Addr) : Prop where
  ex : ∃ p f fd, SMet K C "read" p f ∧ Fun K "read" "Module.read" s_Module_read f fd ∧ Binds K fd ["text"] []
theorem dfr_mk {C p f : Addr} {rest : List Value} {oc : Value} {od an : Option Addr} {osl : Array (Option Value)} {kV doc pm cdv ct : Value} (rd : PySem.W.readsIn K C (.type "type") = true)
    (ga : PySem.W.specialIn K (.ref C) "__getattribute__" = some (some (.builtin "type.__getattribute__"))) (at_ : PySem.W.findCls K (.ref C) (.type "type") "read" = some (.get (.builtin "staticmethod.__get__") (.ref p) .none (.ref C)))
    (rc : PySem.W.recIn K p "staticmethod" = some (.ref f :: rest)) (kp : PySem.W.keepIn K (.ref f) = true)
    (l : K.lookup f = some ⟨oc, od, .func (PySem.W.fnOf "read" "Module.read" (defArgs s_Module_read) (defBody s_Module_read) (defScope s_Module_read) .none kV doc pm an cdv ct), osl⟩) (c : PySem.W.codeIn K cdv "Module.read" = true) : DfR K C :=
  ⟨p, f, _, ⟨rd, ga, at_, ⟨rest, rc⟩, kp⟩, fun_mk (st := s_Module_read) l c kp, (fun_mk (st := s_Module_read) l c kp).binds (fun _ _ _ _ _ _ us hl => match us, hl with | [_], _ => rfl)⟩
theorem int_mk {n : Str} {v s : Int} {t : Tok} (e : mg n = some (.int v t)) (q : v = s) : ∃ t, mg n = some (.int s t) := ⟨t, by rw [← q]; exact e⟩
theorem str_mk {n v s : Str} {t : Tok} (e : mg n = some (.str v t)) (q : v = s) : ∃ t, mg n = some (.str s t) := ⟨t, by rw [← q]; exact e⟩
theorem gt_mk {x : Str} {xs : List Str} {t : Addr} {o : Obj} {vs : List Value} {n : Nat} (X : K.In h) (G : h.Ns mainGlobals mg) (ga : PySem.W.nsIn K mainGlobals x = some (some (.ref t))) (gl : K.lookup t = some o) (gc : o.cls = .type "tuple") (gd : o.dict = none) (ge : o.data = .seq vs.toArray n) (gz : vs.length ≤ sizeLine) (gv : Vals (xs.map V.str) vs) : GTup K mg x xs :=
  ⟨t, o, vs.toArray, n, PySem.W.mg_of X G ga, gl, gc, gd, ge, by rw [List.size_toArray]; exact gz, by rw [List.toList_toArray]; exact gv⟩
theorem rc_mk {C : Addr} (pg : PySem.W.plainGet K C Str.empty = true) (hd : PySem.W.hasDictIn K C = true) (po : PySem.W.plainOver K C = true) (sa : PySem.W.findIn K (.ref C) "__setattr__" = some (some (.builtin "object.__setattr__")))
    (n0 : PySem.W.findIn K (.ref C) "name" = some none) (n1 : PySem.W.findIn K (.ref C) "inlets" = some none) (n2 : PySem.W.findIn K (.ref C) "outlets" = some none) (n3 : PySem.W.findIn K (.ref C) "stations" = some none) (n4 : PySem.W.findIn K (.ref C) "links" = some none) (n5 : PySem.W.findIn K (.ref C) "calls" = some none) : ModCls K C := ⟨⟨pg, hd, po, sa⟩, n0, n1, n2, n3, n4, n5⟩
theorem rh_mk {C : Addr} (pg : PySem.W.plainGet K C Str.empty = true) (hd : PySem.W.hasDictIn K C = true) (po : PySem.W.plainOver K C = true) (sa : PySem.W.findIn K (.ref C) "__setattr__" = some (some (.builtin "object.__setattr__")))
    (n0 : PySem.W.findIn K (.ref C) "modules" = some none) (n1 : PySem.W.findIn K (.ref C) "_flats" = some none) (n2 : PySem.W.findIn K (.ref C) "_levels" = some none) : HouseCls K C := ⟨⟨pg, hd, po, sa⟩, n0, n1, n2⟩
theorem kit_no {D M : Addr} (sD : PySem.W.subIn K (.ref D) (.ref D) = some true) (cM : PySem.W.isClsIn K M = true) (tM : PySem.W.typeIn K (.ref M) = some (.type "type")) (s : PySem.W.subIn K (.ref D) (.ref M) = some false) : PySem.W.kitOne K (.ref D) (.ref M) = some false := by
  have cM' : (PySem.W.clsIn K M).isSome = true := cM
  unfold PySem.W.kitOne
  rw [if_neg]
  · show (if ((PySem.W.clsIn K M).isSome && PySem.W.typeIn K (.ref M) == some (.type "type")) = true then PySem.W.subIn K (.ref D) (.ref M) else none) = some false
    rw [if_pos (by rw [cM', tM]; rfl)]
    exact s
  · intro q
    have e : D = M := Value.ref.inj (beq_iff_eq.mp q)
    subst e
    rw [sD] at s
    cases s
end
theorem sub_tyno {K : PySem.W.Frag} {C : Addr} {T : String} (e : fastBuiltinMro T = some [.type T, .type "object"]) : PySem.W.subIn K (.type T) (.ref C) = some false := by
  show (fastBuiltinMro T).map (·.contains (.ref C)) = some false
  rw [e]
  first
    | rfl
    | simp
theorem kit_tyno {K : PySem.W.Frag} {M : Addr} {T : String} (cM : PySem.W.isClsIn K M = true) (tM : PySem.W.typeIn K (.ref M) = some (.type "type")) (s : PySem.W.subIn K (.type T) (.ref M) = some false) : PySem.W.kitOne K (.type T) (.ref M) = some false := by
  have cM' : (PySem.W.clsIn K M).isSome = true := cM
  unfold PySem.W.kitOne
  rw [if_neg (fun q => by cases beq_iff_eq.mp q)]
  show (if ((PySem.W.clsIn K M).isSome && PySem.W.typeIn K (.ref M) == some (.type "type")) = true then PySem.W.subIn K (.type T) (.ref M) else none) = some false
  rw [if_pos (by rw [cM', tM]; rfl)]
  exact s
theorem kit_self {K : PySem.W.Frag} {M : Addr} : PySem.W.kitOne K (.ref M) (.ref M) = some true := by
  unfold PySem.W.kitOne
  rw [if_pos (by simp)]
theorem notFirst_ty {K : PySem.W.Frag} {C : Addr} {T : String} (e : fastBuiltinMro T = some [.type T, .type "object"]) : PySem.W.notFirst K C (.type T) = true := by
  unfold PySem.W.notFirst
  rw [sub_tyno e]
  simp
theorem all_ok {P : Program} {w : World} {K : PySem.W.Frag} {mg : Str → Option Value} {C HC u fa : Addr} (disinteger : Df K mg "is_integer" s_is_integer ["value"]) (disnumber : Df K mg "is_number" s_is_number ["value"]) (dissequence : Df K mg "is_sequence" s_is_sequence ["value"]) (distupleof : Df K mg "is_tuple_of" s_is_tuple_of ["value", "many"]) (disname : Df K mg "is_name" s_is_name ["value"]) (dislink : Df K mg "is_link" s_is_link ["value"]) (disnumberword : Df K mg "is_number_word" s_is_number_word ["word", "most"]) (dmodulestold : Df K mg "modules_told" s_modules_told ["text", "many"]) (dcanstand : Df K mg "_can_stand" s_can_stand ["kind", "last"]) (dtell : Df K mg "_tell" s_tell ["told", "kind", "words"]) (dtextof : Df K mg "text_of" s_text_of ["module"]) (dmade : Df K mg "_made" s_made ["told"]) (dfirstwrong : Df K mg "_first_wrong" s_first_wrong ["modules"]) (disright : Df K mg "_is_right" s_is_rightT ["kind", "words"]) (dwrongargument : Df K mg "_wrong_argument" s_wrong_argument ["name", "inlets", "outlets", "stations", "links", "calls"]) (darefree : Df K mg "_are_free" s_are_free ["names", "taken"]) (dlabels : Df K mg "_labels" s_labels ["calls"]) (discall : Df K mg "_is_call" s_is_call ["call"]) (disrightlink : Df K mg "_is_right_link" s_is_right_link ["link", "begins", "ends", "labels"]) (dlawbox : Df K mg "_law_box" s_law_box ["script", "k", "own"]) (dlawtake : Df K mg "_law_take" s_law_take ["box", "many"]) (dlawpick : Df K mg "_law_pick" s_law_pick ["box", "items"]) (dlawmixed : Df K mg "_law_mixed" s_law_mixed ["box", "items"]) (dlawnames : Df K mg "_law_names" s_law_names ["box", "many"]) (dlawmodule : Df K mg "_law_module" s_law_module ["box", "name", "sizes", "called"]) (dlawbegins : Df K mg "_law_begins" s_law_begins ["module", "known"]) (dlawgoes : Df K mg "_law_goes" s_law_goes ["module", "known"]) (dlawlinks : Df K mg "_law_links" s_law_links ["box", "module", "known"]) (dlawhouse : Df K mg "_law_house" s_law_house ["box", "many"]) (dlawtext : Df K mg "_law_text" s_law_text ["module"]) (dlawshape : Df K mg "_law_shape" s_law_shape ["made"]) (dlawisunlikeothers : Df K mg "_law_is_unlike_others" s_law_is_unlike_others ["module", "made"]) (dEnd : DfA K mg "is_end_houses" "_is_end" s_is_end ["end", "names", "labels"]) (dEndT : DfA K mg "is_end_texts" "_is_end" s_is_endT ["word"]) (dI : DfI K mg C u) (dH : DfH K mg HC) (mCeq : DfM K C "__eq__" "Module.__eq__" s_Module_eq ["self", "other"]) (mCstr : DfM K C "__str__" "Module.__str__" s_Module_str ["self"]) (dR : DfR K C) (tx : Txt mg) (gLt : ∃ t, mg "LETTERS" = some (.str "abcdefghijklmnopqrstuvwxyz" t)) (gDg : ∃ t, mg "DIGITS" = some (.str "0123456789" t)) (gMd : ∃ t, mg "MOST_DIGITS" = some (.int 3 t)) (gKi : GTup K mg "KINDS" kindsS) (gMa : GTup K mg "MANY" [("use" : Str), "link"]) (rc : ModCls K C) (rh : HouseCls K HC) (gR : mg "Module" = some (.ref C)) (haC : PySem.W.findIn K (.ref C) "__class__" = some (some (.builtin "object.__class__"))) (hmC : PySem.W.mroIn K C (.type "object") = some true) (haHC : PySem.W.findIn K (.ref HC) "__class__" = some (some (.builtin "object.__class__"))) (hmHC : PySem.W.mroIn K HC (.type "object") = some true) (zhn : PySem.W.specialIn K (.builtin "object.__class__") "__get__" = some (some (.builtin "getset_descriptor.__get__"))) (zht : PySem.W.takesIn K (.builtin "object.__class__") = some true) (ic : PySem.W.isClsIn K C = true) (tc : PySem.W.typeIn K (.ref C) = some (.type "type")) (zne : PySem.W.findIn K (.ref C) "__ne__" = some (some (.builtin "object.__ne__"))) (sHH : PySem.W.subIn K (.ref HC) (.ref HC) = some true) (sHC : PySem.W.subIn K (.ref HC) (.ref C) = some false) {fd : FuncData} (F : Fun K "law" "law" s_law fa fd) (base : Heap) : MyG.FnG P w K mg base 12 fa fd ["script"] (spLaw K) := by
  have T := tx
  have Z0 : ModEq K mg C := ⟨gR, fun H a dx fs h => .base (.ins h rc.cl haC zhn zht hmC), kit_self, kit_tyno ic tc (sub_tyno (by decide +kernel)), kit_tyno ic tc (sub_tyno (by decide +kernel)), by unfold PySem.W.notFirst; simp, notFirst_ty (by decide +kernel), notFirst_ty (by decide +kernel), zne, hmC⟩
  have ZH : HouseEq K C HC := ⟨fun H a dx fs h => .base (.ins h rh.cl haHC zhn zht hmHC), kit_no sHH ic tc sHC, by unfold PySem.W.notFirst; rw [sHC]; simp⟩
  have o1 := ok_is_integer (P := P) (w := w) (base := base) disinteger T
  have o2 := ok_is_number disnumber o1
  have o3 := ok_is_sequence (P := P) (w := w) (base := base) dissequence T
  have o4 := ok_is_tuple_of (P := P) (w := w) (base := base) distupleof T
  have o5 := ok_is_name (P := P) (w := w) (base := base) disname T gLt
  have o6 := ok_is_link dislink T o4 o2
  have o7 := ok_are_free darefree T o5
  have o8 := ok_labels dlabels T o3
  have o9 := ok_is_call discall o4 o5
  have o10 := ok_is_end dEnd o5
  have o11 := ok_is_right disrightlink o6 o10
  have o12 := ok_wrong dwrongargument T o5 o3 o7 o8 o9 o11
  obtain ⟨f1, fd1, ds, F1, M1, mC, b1, b2, v2, U⟩ := dI.ex
  have oM : Mks P w K mg base "Module" C 6 ["self", "name", "inlets", "outlets", "stations", "links", "calls"] (spInitG C) := ⟨f1, fd1, ok_init F1 rc T o12, mC, M1, b1⟩
  have o3u := ok_is_sequenceU (P := P) (w := w) (base := base) dissequence T U
  have o8u := ok_labelsU dlabels T U o3u
  have o12u := ok_wrongU dwrongargument T U o5 o3u o7 o8u o9 o11
  have oMU : MksD P w K mg base "Module" C 6 ["self", "name", "inlets", "outlets", "stations", "links", "calls"] (.ref u) (spInitU C u) := ⟨f1, fd1, ds, ok_initU F1 rc T U o12u, mC, M1, b2, v2⟩
  have oFw := ok_first_wrong (P := P) (w := w) (base := base) dfirstwrong T o3
  have oHo : Mks P w K mg base "House" HC 3 ["self", "modules"] (spInitH HC) := by
    obtain ⟨f, fd, F2, M2, m2, b⟩ := dH.ex
    exact ⟨f, fd, ok_initH F2 rh T oFw, m2, M2, b⟩
  have oNw := ok_is_number_word (P := P) (w := w) (base := base) disnumberword T gDg
  have oEt := ok_is_endT (P := P) (w := w) (base := base) dEndT T o5
  have oRt := ok_is_rightT disright T gMd o5 oNw oEt
  have oCs := ok_can_stand (P := P) (w := w) (base := base) dcanstand gKi gMa
  have oTe := ok_tell (P := P) (w := w) (base := base) dtell T
  have oMt := ok_modules_told dmodulestold T oCs oRt oTe
  have oMd := ok_made dmade oM
  have RM : ReadM P w K mg base C := by
    obtain ⟨p, f, fd, S, F2, b⟩ := dR.ex
    exact ⟨f, fd, p, ok_readM F2 T oMt oMd, S, b⟩
  have oq : EqM P w K mg base C := by
    obtain ⟨f, fd, F2, ⟨a, i, k⟩, b⟩ := mCeq.ex
    exact ⟨f, fd, ok_eqM F2 rc T Z0, a, i, b⟩
  have oTx := ok_text_of (P := P) (w := w) (base := base) dtextof T rc
  have ot : StrM P w K mg base C := by
    obtain ⟨f, fd, F2, ⟨a, i, k⟩, b⟩ := mCstr.ex
    exact ⟨f, fd, ok_strM F2 T oTx, a, i, b⟩
  have oT := ok_take (P := P) (w := w) (base := base) dlawtake T
  have oP := ok_pick dlawpick T oT
  have oMx := ok_mixed dlawmixed T oT
  have oN := ok_names dlawnames oMx
  have oB := ok_begins (P := P) (w := w) (base := base) dlawbegins
  have oG := ok_goes (P := P) (w := w) (base := base) dlawgoes
  have oL := ok_links dlawlinks T oT oP oB oG
  have oMo := ok_module dlawmodule T oN oP oL
  have oH := ok_house dlawhouse T oT oMo
  exact ok_law F T Z0 ZH U oq ot RM oHo oM oMU (ok_law_shape dlawshape T rc) (ok_law_text dlawtext T) (ok_law_unlike dlawisunlikeothers T Z0 oq oM) (ok_box dlawbox T) oH
theorem end_mk {P : Program} {w : World} {K : PySem.W.Frag} {h : Heap} {mg : Str → Option Value} {C HC u fa f : Addr} (X : K.In h) (G : h.Ns mainGlobals mg) (hfa : mg "law" = some (.ref fa))
    {oc : Value} {od an : Option Addr} {osl : Array (Option Value)} {kV doc pm cdv ct : Value}
    (a : PySem.W.nsIn K mainGlobals "law" = some (some (.ref f))) (l : K.lookup f = some ⟨oc, od, .func (PySem.W.fnOf "law" "law" (defArgs s_law) (defBody s_law) (defScope s_law) .none kV doc pm an cdv ct), osl⟩) (c : PySem.W.codeIn K cdv "law" = true) (k : PySem.W.keepIn K (.ref f) = true)
    (disinteger : Df K mg "is_integer" s_is_integer ["value"]) (disnumber : Df K mg "is_number" s_is_number ["value"]) (dissequence : Df K mg "is_sequence" s_is_sequence ["value"]) (distupleof : Df K mg "is_tuple_of" s_is_tuple_of ["value", "many"]) (disname : Df K mg "is_name" s_is_name ["value"]) (dislink : Df K mg "is_link" s_is_link ["value"]) (disnumberword : Df K mg "is_number_word" s_is_number_word ["word", "most"]) (dmodulestold : Df K mg "modules_told" s_modules_told ["text", "many"]) (dcanstand : Df K mg "_can_stand" s_can_stand ["kind", "last"]) (dtell : Df K mg "_tell" s_tell ["told", "kind", "words"]) (dtextof : Df K mg "text_of" s_text_of ["module"]) (dmade : Df K mg "_made" s_made ["told"]) (dfirstwrong : Df K mg "_first_wrong" s_first_wrong ["modules"]) (disright : Df K mg "_is_right" s_is_rightT ["kind", "words"]) (dwrongargument : Df K mg "_wrong_argument" s_wrong_argument ["name", "inlets", "outlets", "stations", "links", "calls"]) (darefree : Df K mg "_are_free" s_are_free ["names", "taken"]) (dlabels : Df K mg "_labels" s_labels ["calls"]) (discall : Df K mg "_is_call" s_is_call ["call"]) (disrightlink : Df K mg "_is_right_link" s_is_right_link ["link", "begins", "ends", "labels"]) (dlawbox : Df K mg "_law_box" s_law_box ["script", "k", "own"]) (dlawtake : Df K mg "_law_take" s_law_take ["box", "many"]) (dlawpick : Df K mg "_law_pick" s_law_pick ["box", "items"]) (dlawmixed : Df K mg "_law_mixed" s_law_mixed ["box", "items"]) (dlawnames : Df K mg "_law_names" s_law_names ["box", "many"]) (dlawmodule : Df K mg "_law_module" s_law_module ["box", "name", "sizes", "called"]) (dlawbegins : Df K mg "_law_begins" s_law_begins ["module", "known"]) (dlawgoes : Df K mg "_law_goes" s_law_goes ["module", "known"]) (dlawlinks : Df K mg "_law_links" s_law_links ["box", "module", "known"]) (dlawhouse : Df K mg "_law_house" s_law_house ["box", "many"]) (dlawtext : Df K mg "_law_text" s_law_text ["module"]) (dlawshape : Df K mg "_law_shape" s_law_shape ["made"]) (dlawisunlikeothers : Df K mg "_law_is_unlike_others" s_law_is_unlike_others ["module", "made"]) (dEnd : DfA K mg "is_end_houses" "_is_end" s_is_end ["end", "names", "labels"]) (dEndT : DfA K mg "is_end_texts" "_is_end" s_is_endT ["word"]) (dI : DfI K mg C u) (dH : DfH K mg HC) (mCeq : DfM K C "__eq__" "Module.__eq__" s_Module_eq ["self", "other"]) (mCstr : DfM K C "__str__" "Module.__str__" s_Module_str ["self"]) (dR : DfR K C) (tx : Txt mg) (gLt : ∃ t, mg "LETTERS" = some (.str "abcdefghijklmnopqrstuvwxyz" t)) (gDg : ∃ t, mg "DIGITS" = some (.str "0123456789" t)) (gMd : ∃ t, mg "MOST_DIGITS" = some (.int 3 t)) (gKi : GTup K mg "KINDS" kindsS) (gMa : GTup K mg "MANY" [("use" : Str), "link"]) (rc : ModCls K C) (rh : HouseCls K HC) (gR : mg "Module" = some (.ref C)) (haC : PySem.W.findIn K (.ref C) "__class__" = some (some (.builtin "object.__class__"))) (hmC : PySem.W.mroIn K C (.type "object") = some true) (haHC : PySem.W.findIn K (.ref HC) "__class__" = some (some (.builtin "object.__class__"))) (hmHC : PySem.W.mroIn K HC (.type "object") = some true) (zhn : PySem.W.specialIn K (.builtin "object.__class__") "__get__" = some (some (.builtin "getset_descriptor.__get__"))) (zht : PySem.W.takesIn K (.builtin "object.__class__") = some true) (ic : PySem.W.isClsIn K C = true) (tc : PySem.W.typeIn K (.ref C) = some (.type "type")) (zne : PySem.W.findIn K (.ref C) "__ne__" = some (some (.builtin "object.__ne__"))) (sHH : PySem.W.subIn K (.ref HC) (.ref HC) = some true) (sHC : PySem.W.subIn K (.ref HC) (.ref C) = some false) :
    ∃ fd : FuncData, (∀ (s : Shared) (v : Value), BindsTo s fd ⟨[v], []⟩ [("script", v)]) ∧ ∀ base : Heap, K.In base → base.Ns mainGlobals mg → MyG.FnG P w K mg base 12 fa fd ["script"] (spLaw K) := by
  have e := hfa.symm.trans (PySem.W.mg_of X G a)
  cases e
  exact ⟨_, fun s v => .of_eq rfl, fun base _ _ => all_ok disinteger disnumber dissequence distupleof disname dislink disnumberword dmodulestold dcanstand dtell dtextof dmade dfirstwrong disright dwrongargument darefree dlabels discall disrightlink dlawbox dlawtake dlawpick dlawmixed dlawnames dlawmodule dlawbegins dlawgoes dlawlinks dlawhouse dlawtext dlawshape dlawisunlikeothers dEnd dEndT dI dH mCeq mCstr dR tx gLt gDg gMd gKi gMa rc rh gR haC hmC haHC hmHC zhn zht ic tc zne sHH sHC (fun_mk (st := s_law) l c k) base⟩
end My

open PySem PySem.W PyProof.Rows in
set_option maxHeartbeats 0 in
theorem PySem.Challenge.cw_waitworks_k09_modules_made_holds : PySem.Challenge.rw_waitworks_k09_modules_made.Holds := by
  w_on; o_law; k_head; (case hw => w_witness2)
  k_fill
  refine MyG.walk_G (l := PySem.Challenge.rw_waitworks_k09_modules_made) (n := 63) (k := 12) (x := "script") (sp := fun w => My.spLaw _) rfl (by decide) rfl ⟨rfl, by decide, by decide⟩ (fun w h Y => PySem.W.kIn_of Y) ?F (fun _ _ a ns hl _ hS => ⟨a, ns, rfl, hS, hl, fun _ => rfl⟩)
  case F =>
    intro w mg fa h KX G hmg
    refine' My.end_mk KX G hmg ?aL ?lL ?cL ?kL ?disinteger ?disnumber ?dissequence ?distupleof ?disname ?dislink ?disnumberword ?dmodulestold ?dcanstand ?dtell ?dtextof ?dmade ?dfirstwrong ?disright ?dwrongargument ?darefree ?dlabels ?discall ?disrightlink ?dlawbox ?dlawtake ?dlawpick ?dlawmixed ?dlawnames ?dlawmodule ?dlawbegins ?dlawgoes ?dlawlinks ?dlawhouse ?dlawtext ?dlawshape ?dlawisunlikeothers ?dEnd ?dEndT ?dI ?dH ?mCeq ?mCstr ?dR ?tx ?gLt ?gDg ?gMd ?gKi ?gMa ?rc ?rh ?gR ?haC ?hmC ?haHC ?hmHC ?zhn ?zht ?ic ?tc ?zne ?sHH ?sHC
    (case aL => k_is)
    (case lL => k_is)
    (case cL => k_is)
    (case kL => k_is)
    (case disinteger => (refine' My.df_mk KX G ?a ?l ?c ?k (fun _ _ _ _ _ _ us hl => match us, hl with | [_], _ => rfl)); (case a => k_is); (case l => k_is); (case c => k_is); (case k => k_is))
    (case disnumber => (refine' My.df_mk KX G ?a ?l ?c ?k (fun _ _ _ _ _ _ us hl => match us, hl with | [_], _ => rfl)); (case a => k_is); (case l => k_is); (case c => k_is); (case k => k_is))
    (case dissequence => (refine' My.df_mk KX G ?a ?l ?c ?k (fun _ _ _ _ _ _ us hl => match us, hl with | [_], _ => rfl)); (case a => k_is); (case l => k_is); (case c => k_is); (case k => k_is))
    (case distupleof => (refine' My.df_mk KX G ?a ?l ?c ?k (fun _ _ _ _ _ _ us hl => match us, hl with | [_, _], _ => rfl)); (case a => k_is); (case l => k_is); (case c => k_is); (case k => k_is))
    (case disname => (refine' My.df_mk KX G ?a ?l ?c ?k (fun _ _ _ _ _ _ us hl => match us, hl with | [_], _ => rfl)); (case a => k_is); (case l => k_is); (case c => k_is); (case k => k_is))
    (case dislink => (refine' My.df_mk KX G ?a ?l ?c ?k (fun _ _ _ _ _ _ us hl => match us, hl with | [_], _ => rfl)); (case a => k_is); (case l => k_is); (case c => k_is); (case k => k_is))
    (case disnumberword => (refine' My.df_mk KX G ?a ?l ?c ?k (fun _ _ _ _ _ _ us hl => match us, hl with | [_, _], _ => rfl)); (case a => k_is); (case l => k_is); (case c => k_is); (case k => k_is))
    (case dmodulestold => (refine' My.df_mk KX G ?a ?l ?c ?k (fun _ _ _ _ _ _ us hl => match us, hl with | [_, _], _ => rfl)); (case a => k_is); (case l => k_is); (case c => k_is); (case k => k_is))
    (case dcanstand => (refine' My.df_mk KX G ?a ?l ?c ?k (fun _ _ _ _ _ _ us hl => match us, hl with | [_, _], _ => rfl)); (case a => k_is); (case l => k_is); (case c => k_is); (case k => k_is))
    (case dtell => (refine' My.df_mk KX G ?a ?l ?c ?k (fun _ _ _ _ _ _ us hl => match us, hl with | [_, _, _], _ => rfl)); (case a => k_is); (case l => k_is); (case c => k_is); (case k => k_is))
    (case dtextof => (refine' My.df_mk KX G ?a ?l ?c ?k (fun _ _ _ _ _ _ us hl => match us, hl with | [_], _ => rfl)); (case a => k_is); (case l => k_is); (case c => k_is); (case k => k_is))
    (case dmade => (refine' My.df_mk KX G ?a ?l ?c ?k (fun _ _ _ _ _ _ us hl => match us, hl with | [_], _ => rfl)); (case a => k_is); (case l => k_is); (case c => k_is); (case k => k_is))
    (case dfirstwrong => (refine' My.df_mk KX G ?a ?l ?c ?k (fun _ _ _ _ _ _ us hl => match us, hl with | [_], _ => rfl)); (case a => k_is); (case l => k_is); (case c => k_is); (case k => k_is))
    (case disright => (refine' My.df_mk KX G ?a ?l ?c ?k (fun _ _ _ _ _ _ us hl => match us, hl with | [_, _], _ => rfl)); (case a => k_is); (case l => k_is); (case c => k_is); (case k => k_is))
    (case dwrongargument => (refine' My.df_mk KX G ?a ?l ?c ?k (fun _ _ _ _ _ _ us hl => match us, hl with | [_, _, _, _, _, _], _ => rfl)); (case a => k_is); (case l => k_is); (case c => k_is); (case k => k_is))
    (case darefree => (refine' My.df_mk KX G ?a ?l ?c ?k (fun _ _ _ _ _ _ us hl => match us, hl with | [_, _], _ => rfl)); (case a => k_is); (case l => k_is); (case c => k_is); (case k => k_is))
    (case dlabels => (refine' My.df_mk KX G ?a ?l ?c ?k (fun _ _ _ _ _ _ us hl => match us, hl with | [_], _ => rfl)); (case a => k_is); (case l => k_is); (case c => k_is); (case k => k_is))
    (case discall => (refine' My.df_mk KX G ?a ?l ?c ?k (fun _ _ _ _ _ _ us hl => match us, hl with | [_], _ => rfl)); (case a => k_is); (case l => k_is); (case c => k_is); (case k => k_is))
    (case disrightlink => (refine' My.df_mk KX G ?a ?l ?c ?k (fun _ _ _ _ _ _ us hl => match us, hl with | [_, _, _, _], _ => rfl)); (case a => k_is); (case l => k_is); (case c => k_is); (case k => k_is))
    (case dlawbox => (refine' My.df_mk KX G ?a ?l ?c ?k (fun _ _ _ _ _ _ us hl => match us, hl with | [_, _, _], _ => rfl)); (case a => k_is); (case l => k_is); (case c => k_is); (case k => k_is))
    (case dlawtake => (refine' My.df_mk KX G ?a ?l ?c ?k (fun _ _ _ _ _ _ us hl => match us, hl with | [_, _], _ => rfl)); (case a => k_is); (case l => k_is); (case c => k_is); (case k => k_is))
    (case dlawpick => (refine' My.df_mk KX G ?a ?l ?c ?k (fun _ _ _ _ _ _ us hl => match us, hl with | [_, _], _ => rfl)); (case a => k_is); (case l => k_is); (case c => k_is); (case k => k_is))
    (case dlawmixed => (refine' My.df_mk KX G ?a ?l ?c ?k (fun _ _ _ _ _ _ us hl => match us, hl with | [_, _], _ => rfl)); (case a => k_is); (case l => k_is); (case c => k_is); (case k => k_is))
    (case dlawnames => (refine' My.df_mk KX G ?a ?l ?c ?k (fun _ _ _ _ _ _ us hl => match us, hl with | [_, _], _ => rfl)); (case a => k_is); (case l => k_is); (case c => k_is); (case k => k_is))
    (case dlawmodule => (refine' My.df_mk KX G ?a ?l ?c ?k (fun _ _ _ _ _ _ us hl => match us, hl with | [_, _, _, _], _ => rfl)); (case a => k_is); (case l => k_is); (case c => k_is); (case k => k_is))
    (case dlawbegins => (refine' My.df_mk KX G ?a ?l ?c ?k (fun _ _ _ _ _ _ us hl => match us, hl with | [_, _], _ => rfl)); (case a => k_is); (case l => k_is); (case c => k_is); (case k => k_is))
    (case dlawgoes => (refine' My.df_mk KX G ?a ?l ?c ?k (fun _ _ _ _ _ _ us hl => match us, hl with | [_, _], _ => rfl)); (case a => k_is); (case l => k_is); (case c => k_is); (case k => k_is))
    (case dlawlinks => (refine' My.df_mk KX G ?a ?l ?c ?k (fun _ _ _ _ _ _ us hl => match us, hl with | [_, _, _], _ => rfl)); (case a => k_is); (case l => k_is); (case c => k_is); (case k => k_is))
    (case dlawhouse => (refine' My.df_mk KX G ?a ?l ?c ?k (fun _ _ _ _ _ _ us hl => match us, hl with | [_, _], _ => rfl)); (case a => k_is); (case l => k_is); (case c => k_is); (case k => k_is))
    (case dlawtext => (refine' My.df_mk KX G ?a ?l ?c ?k (fun _ _ _ _ _ _ us hl => match us, hl with | [_], _ => rfl)); (case a => k_is); (case l => k_is); (case c => k_is); (case k => k_is))
    (case dlawshape => (refine' My.df_mk KX G ?a ?l ?c ?k (fun _ _ _ _ _ _ us hl => match us, hl with | [_], _ => rfl)); (case a => k_is); (case l => k_is); (case c => k_is); (case k => k_is))
    (case dlawisunlikeothers => (refine' My.df_mk KX G ?a ?l ?c ?k (fun _ _ _ _ _ _ us hl => match us, hl with | [_, _], _ => rfl)); (case a => k_is); (case l => k_is); (case c => k_is); (case k => k_is))
    (case dEnd => (refine' My.dfa_mk KX G ?a ?l ?c ?k (fun _ _ _ _ _ _ us hl => match us, hl with | [_, _, _], _ => rfl)); (case a => k_is); (case l => k_is); (case c => k_is); (case k => k_is))
    (case dEndT => (refine' My.dfa_mk KX G ?a ?l ?c ?k (fun _ _ _ _ _ _ us hl => match us, hl with | [_], _ => rfl)); (case a => k_is); (case l => k_is); (case c => k_is); (case k => k_is))
    (case dI => (refine' My.dfi_mk KX G ?aC ?a ?i ?mk ?kc ?l ?lT ?oT ?zle ?zce ?zde ?c ?k); (case aC => k_is); (case a => k_is); (case i => k_is); (case mk => k_is); (case kc => k_is); (case l => k_is); (case lT => k_is); (case oT => rfl); (case zle => k_is); (case zce => rfl); (case zde => rfl); (case c => k_is); (case k => k_is))
    (case dH => (refine' My.dfh_mk KX G ?aC ?a ?i ?mk ?kc ?l ?c ?k); (case aC => k_is); (case a => k_is); (case i => k_is); (case mk => k_is); (case kc => k_is); (case l => k_is); (case c => k_is); (case k => k_is))
    (case mCeq => (refine' My.dfm_mk ?a ?i ?l ?c ?k (fun _ _ _ _ _ _ us hl => match us, hl with | [_, _], _ => rfl)); (case a => k_is); (case i => k_is); (case l => k_is); (case c => k_is); (case k => k_is))
    (case mCstr => (refine' My.dfm_mk ?a ?i ?l ?c ?k (fun _ _ _ _ _ _ us hl => match us, hl with | [_], _ => rfl)); (case a => k_is); (case i => k_is); (case l => k_is); (case c => k_is); (case k => k_is))
    (case dR => (refine' My.dfr_mk ?srd ?sga ?sat ?src ?skp ?l ?c); (case srd => k_is); (case sga => k_is); (case sat => k_is); (case src => k_is); (case skp => k_is); (case l => k_is); (case c => k_is))
    (case tx => refine' ⟨mg_none_of KX G ?_, mg_none_of KX G ?_, mg_none_of KX G ?_, mg_none_of KX G ?_, mg_none_of KX G ?_, mg_none_of KX G ?_, mg_none_of KX G ?_, mg_none_of KX G ?_, mg_none_of KX G ?_, mg_none_of KX G ?_, mg_none_of KX G ?_, mg_none_of KX G ?_, mg_none_of KX G ?_, mg_none_of KX G ?_, mg_none_of KX G ?_, mg_none_of KX G ?_, mg_none_of KX G ?_⟩ <;> k_is)
    (case gLt => (refine' My.str_mk (mg_of KX G ?ge) ?gq); (case ge => k_is); (case gq => first | rfl | decide +kernel))
    (case gDg => (refine' My.str_mk (mg_of KX G ?ge) ?gq); (case ge => k_is); (case gq => first | rfl | decide +kernel))
    (case gMd => (refine' My.int_mk (mg_of KX G ?ge) ?gq); (case ge => k_is); (case gq => first | rfl | decide +kernel))
    (case gKi => (refine' My.gt_mk KX G ?ga ?gl ?gc ?gd ?ge ?gz ?gv); (case ga => k_is); (case gl => k_is); (case gc => rfl); (case gd => rfl); (case ge => rfl); (case gz => exact Nat.le_of_ble_eq_true rfl); (case gv => exact .cons ⟨_, rfl⟩ (.cons ⟨_, rfl⟩ (.cons ⟨_, rfl⟩ (.cons ⟨_, rfl⟩ (.cons ⟨_, rfl⟩ (.cons ⟨_, rfl⟩ (.nil))))))))
    (case gMa => (refine' My.gt_mk KX G ?ga ?gl ?gc ?gd ?ge ?gz ?gv); (case ga => k_is); (case gl => k_is); (case gc => rfl); (case gd => rfl); (case ge => rfl); (case gz => exact Nat.le_of_ble_eq_true rfl); (case gv => exact .cons ⟨_, rfl⟩ (.cons ⟨_, rfl⟩ (.nil))))
    (case rc => (refine' My.rc_mk ?pg ?hd ?po ?sa ?n0 ?n1 ?n2 ?n3 ?n4 ?n5); (case pg => k_is); (case hd => k_is); (case po => k_is); (case sa => k_is); (case n0 => k_is); (case n1 => k_is); (case n2 => k_is); (case n3 => k_is); (case n4 => k_is); (case n5 => k_is))
    (case rh => (refine' My.rh_mk ?pg ?hd ?po ?sa ?n0 ?n1 ?n2); (case pg => k_is); (case hd => k_is); (case po => k_is); (case sa => k_is); (case n0 => k_is); (case n1 => k_is); (case n2 => k_is))
    (case gR => (refine' mg_of KX G ?_); k_is)
    (case haC => k_is)
    (case hmC => first | rfl | k_is)
    (case haHC => k_is)
    (case hmHC => first | rfl | k_is)
    (case zhn => k_is)
    (case zht => k_is)
    (case ic => k_is)
    (case tc => k_is)
    (case zne => k_is)
    (case sHH => first | k_is | rfl)
    (case sHC => first | k_is | rfl)
