import PyProof.Rows.All
import Wide.All
import OpenK.AllK
import Wide.FinOn
import HandS.ForMost
import HandS.Codes
import HandS.IsInst
import HandS.Property
import HandS.Star
import HandS.Gcd
import HandS.Defaults
import HandS.Walk
import HandS.Deep
import HandS.Text
import HandS.Words
import HandS.Zip
import HandS.SetFor
import HandS.ExcOwn
import HandS.WordsExc
import HandS.ClsMeth
import HandS.Exc
import HandS.TryMany
import HandS.ExcInit
import HandS.ExcField
import HandS.ExcIs
import KE.KExcIs
import HandS.OwnEq
import HandS.SlotsOwn
import HandS.Strs
import KE.KCallOwn
import HandS.MakeKwOnly
import HandS.Conv
import HandS.DictComp
import HandS.TupAny
import HandS.Ends
import PySem.Challenge.RW_waitworks_k88_goings_and_counts
set_option Elab.async false
set_option maxRecDepth 100000
set_option autoImplicit false
namespace My
open PySem PySem.Spec PyProof.Rows L2
/-! ## general: either of two readings; defs and methods as one fact each; heaps -/
section
variable {X : Cx}
/-- either of two readings of an expression -/
theorem pe_alt {e : Expr} {t1 t2 : TE} (h1 : PE X e t1) (h2 : PE X e t2) : PE X e (fun σ H Q => t1 σ H Q ∨ t2 σ H Q) :=
  ⟨fun pins s σ H Q I h => h.elim (h1.run pins s σ H Q I) (h2.run pins s σ H Q I)⟩
theorem pi_alt {g e : Expr} {t1 t2 : TI} (h1 : PI X g e t1) (h2 : PI X g e t2) : PI X g e (fun σ H R => t1 σ H R ∨ t2 σ H R) :=
  ⟨fun pins s σ H R I h => h.elim (h1.run pins s σ H R I) (h2.run pins s σ H R I)⟩
theorem pss_alt {ss : List Stmt} {t1 t2 : TS} (h1 : PSs X ss t1) (h2 : PSs X ss t2) : PSs X ss (fun D σ H => t1 D σ H ∨ t2 D σ H) :=
  ⟨fun pins s σ H D I h => h.elim (h1.run pins s σ H D I) (h2.run pins s σ H D I)⟩
end
section
variable {P : Program} {w : World} {K : PySem.W.Frag} {mg : Str → Option Value} {base : Heap}
/-- the module's name x is a def that keeps a promise -/
structure Own (P : Program) (w : World) (K : PySem.W.Frag) (mg : Str → Option Value) (base : Heap) (x : Str) (k : Nat) (ps : List Str) (sp : Sp) : Prop where
  ex : ∃ f fd, FnOk P w K mg base CX0 k f fd ps sp ∧ mg x = some (.ref f) ∧ PySem.W.keepIn K (.ref f) = true ∧ Binds K fd ps []
/-- the module's name x is the def st -/
structure Df (K : PySem.W.Frag) (mg : Str → Option Value) (x : Str) (st : Stmt) (ps : List Str) : Prop where
  ex : ∃ f fd, Fun K x x st f fd ∧ mg x = some (.ref f) ∧ Binds K fd ps []
theorem Df.own {x : Str} {st : Stmt} {ps N : List Str} {k : Nat} {sp : Sp} (D : Df K mg x st ps) (S : FnScope N ps (defScope st)) (len : ∀ vs H Q E, sp vs H Q E → vs.length = ps.length)
    (hbody : ∀ (f : Addr) (cdv : Value) (A : Around) (outer : List Env) (s : Shared) (H : Hp) (vs : List V) (Q : VK) (E : XK), Room k (A.deeper (envOfC x (defScope st) s.heap.objs.size f cdv)) → sp vs H Q E →
      ∃ t, PSs (cxOf CX0 P w K mg base N x (defScope st) f cdv A outer s H E).nox (defBody st) t ∧ t { nx := fun _ H' => Q .non H', rt := Q } (start N vs) H) : Own P w K mg base x (k + 1) ps sp := by
  obtain ⟨f, fd, F, m, b⟩ := D.ex
  exact ⟨f, fd, F.ok S len (hbody f), m, F.kp, b⟩
theorem Own.imp {x : Str} {k j : Nat} {ps : List Str} {sp sp' : Sp} (O : Own P w K mg base x k ps sp) (hk : k ≤ j) (h : ∀ vs H Q E, sp' vs H Q E → sp vs H Q E) : Own P w K mg base x j ps sp' := by
  obtain ⟨f, fd, F, r⟩ := O.ex
  exact ⟨f, fd, (F.mono hk).imp h, r⟩
/-- a method of the class at C -/
structure Mth (P : Program) (w : World) (K : PySem.W.Frag) (mg : Str → Option Value) (base : Heap) (C : Addr) (m : Str) (k : Nat) (ps : List Str) (sp : Sp) : Prop where
  ex : ∃ f fd, FnOk P w K mg base CX0 k f fd ps sp ∧ Meth K C m f ∧ Binds K fd ps []
structure Prp (P : Program) (w : World) (K : PySem.W.Frag) (mg : Str → Option Value) (base : Heap) (C : Addr) (m : Str) (k : Nat) (ps : List Str) (sp : Sp) : Prop where
  ex : ∃ p f fd, FnOk P w K mg base CX0 k f fd ps sp ∧ PropOf K C m p f ∧ Binds K fd ps []
/-- the module's name x is a class whose __init__ keeps a promise -/
structure Mks (P : Program) (w : World) (K : PySem.W.Frag) (mg : Str → Option Value) (base : Heap) (x : Str) (C : Addr) (k : Nat) (ps : List Str) (sp : Sp) : Prop where
  ex : ∃ f fd, FnOk P w K mg base CX0 k f fd ps sp ∧ mg x = some (.ref C) ∧ Mk K C f ∧ Binds K fd ps []
end
section
variable {X : Cx} {x m : Str} {p pos apos : Pos} {e o : Expr} {es : List Expr} {t : TA} {ta : TE} {k : Nat} {ps : List Str} {sp : Sp} {C : Addr}
theorem pe_own (O : Own X.prog X.w X.K X.mg X.base x k ps sp) (hr : Room k X.A) (ha : PA X (e :: es) t) (hg : Gl X x := by exact rfl) (hdb : (x == ("__debug__" : Str)) = false := by decide)
    (he : starEach (e :: es) X.env = (false, eval e X.env) :: starEach es X.env := by rfl) (hpl : (backTo pos (starEach es X.env)).any (·.1) = false := by rfl) : PE X (.Call (.Name x p) (e :: es) [] pos) (tCall sp [] E0 t) := by
  obtain ⟨f, fd, G, hm, hk, hb⟩ := O.ex
  exact pe_call G hr hg hm hk hb .nil pass0 ha hdb he hpl
theorem pe_own0 (O : Own X.prog X.w X.K X.mg X.base x k ps sp) (hr : Room k X.A) (hg : Gl X x := by exact rfl) (hdb : (x == ("__debug__" : Str)) = false := by decide) : PE X (.Call (.Name x p) [] [] pos) (tCall sp [] E0 tNil) := by
  obtain ⟨f, fd, G, hm, hk, hb⟩ := O.ex
  exact pe_call0 G hr hg hm hk hb .nil pass0 hdb
theorem pe_mks (O : Mks X.prog X.w X.K X.mg X.base x C k ps sp) (hr : Room (k + 1) X.A) (ha : PA X (e :: es) t) (hg : Gl X x := by exact rfl) (hdb : (x == ("__debug__" : Str)) = false := by decide)
    (he : starEach (e :: es) X.env = (false, eval e X.env) :: starEach es X.env := by rfl) (hpl : (backTo pos (starEach es X.env)).any (·.1) = false := by rfl) : PE X (.Call (.Name x p) (e :: es) [] pos) (tMake C sp [] E0 t) := by
  obtain ⟨f, fd, G, hm, M, hb⟩ := O.ex
  exact pe_make M G hr hg hm hb .nil pass0 ha hdb he hpl
theorem pe_mth (c : Cls X.K C) (O : Mth X.prog X.w X.K X.mg X.base C m k ps sp) (hr : Room k X.A) (he : PE X o ta) (ha : PA X (e :: es) t)
    (hst : starEach (e :: es) X.env = (false, eval e X.env) :: starEach es X.env := by rfl) (hpl : (backTo pos (starEach es X.env)).any (·.1) = false := by rfl)
    {pl : Sem Bool} (ht : eval (.Call (.Attribute o m apos) (e :: es) [] pos) X.env = (do
      let ov ← eval o X.env
      standAt apos.atName
      let (f, first) ← holding [ov] (getMethod ov m pl)
      callWith pos f first (backTo pos (starEach (e :: es) X.env)) (backToKw pos (keywordEach [] X.env))) := by rfl) : PE X (.Call (.Attribute o m apos) (e :: es) [] pos) (tMeth C m sp [] E0 ta t) := by
  obtain ⟨f, fd, G, M, hb⟩ := O.ex
  exact pe_meth he c M G hr hb .nil pass0 ha hst hpl ht
theorem pe_prp (c : Cls X.K C) (O : Prp X.prog X.w X.K X.mg X.base C m k ps sp) (hr : Room (k + 1) X.A) (he : PE X o ta) (hab : attributeBase o m X.env (eval o X.env) = eval o X.env := by rfl) : PE X (.Attribute o m pos) (tProp C sp [] E0 ta) := by
  obtain ⟨q, f, fd, G, M, hb⟩ := O.ex
  exact pe_prop he c M G hr hb .nil pass0 hab
end
/-! ## heaps -/
theorem same_upd {H : Hp} {p : Addr} {o : HO} (h : H p = none) : Same H (upd H p o) := fun b x e => by
  rw [upd_ne (ne_of_none e h)]
  exact e
theorem _root_.L2.Same.seqT {K : PySem.W.Frag} {H H' : Hp} {a : Addr} {xs : List V} (e : Same H H') (h : SqT K H a xs) : SqT K H' a xs := by
  rcases h with (h | ⟨o, h⟩) | h
  · exact .inl (.inl (e _ _ h))
  · exact .inl (.inr ⟨o, e _ _ h⟩)
  · exact .inr h
theorem new_lst {Q : VK} {xs : List V} {H : Hp} (hl : xs.length ≤ sizeLine) (h : ∀ p H', Same H H' → H p = none → H' p = some (.lst xs) → Q (.ref p) H') : xs.length ≤ sizeLine ∧ ∀ p, H p = none → Q (.ref p) (upd H p (.lst xs)) :=
  ⟨hl, fun p hp => h p _ (same_upd hp) hp upd_same⟩
theorem new_tup {Q : VK} {xs : List V} {H : Hp} (hl : xs.length ≤ sizeLine) (h : ∀ p H', Same H H' → H p = none → H' p = some (.tup xs) → Q (.ref p) H') : xs.length ≤ sizeLine ∧ ∀ p, H p = none → Q (.ref p) (upd H p (.tup xs)) :=
  ⟨hl, fun p hp => h p _ (same_upd hp) hp upd_same⟩
theorem new_o {Q : VK} {o : HO} {H : Hp} (h : ∀ p H', Same H H' → H p = none → H' p = some o → Q (.ref p) H') : ∀ p, H p = none → Q (.ref p) (upd H p o) :=
  fun p hp => h p _ (same_upd hp) hp upd_same
end My
namespace My
open PySem PySem.Spec PyProof.Rows L2
/-! ## readings in one step -/
theorem rd_isi {K : PySem.W.Frag} {H : Hp} {Q : VK} {x : V} {m : String} (n : String) (b : Bool) (ty : TyX K H x (.type n)) (h : kitB n m = some b) (q : Q (.bl b) H) : rIsi K [x, .ty m] H Q :=
  ⟨_, _, _, _, _, rfl, .ty _, ty, kit_ty h, q⟩
theorem rd_isi2 {K : PySem.W.Frag} {H : Hp} {Q : VK} {x : V} {m m' : String} {tp : Addr} (n : String) (b b' : Bool) (ht : H tp = some (.tup [.ty m, .ty m'])) (ty : TyX K H x (.type n)) (h : kitB n m = some b) (h' : kitB n m' = some b') (q : Q (.bl (b || b')) H) : rIsiT K [x, .ref tp] H Q :=
  ⟨_, _, _, _, _, _, rfl, ht, .cons (.ty _) (.cons (.ty _) .nil), ty, kitAny_cons (kit_ty h) (fun e => kitAny_cons (r := b || b') (kit_ty h') (fun e' => by rw [e, e']; rfl) (fun e' => by rw [e, e']; rfl)) (fun e => by rw [e]; rfl), q⟩
end My
namespace My
open PySem PySem.Spec PyProof.Rows L2
/-! ## a list or a tuple -/
def SqS (K : PySem.W.Frag) (H : Hp) (a : Addr) (xs : List V) : Prop := SqL K H a xs ∨ SqT K H a xs
theorem _root_.L2.Same.sqs {K : PySem.W.Frag} {H H' : Hp} {a : Addr} {xs : List V} (e : Same H H') (h : SqS K H a xs) : SqS K H' a xs := h.imp e.seq e.seqT
/-- how a walk over such a thing goes, as long as what is tracked in H0 stands -/
structure SeqIt (H0 : Hp) (xs : List V) (J : It) : Prop where
  go : ∀ i H, Same H0 H → i < xs.length → J.go i H
  yld : ∀ i H x H', Same H0 H → J.yld i H x H' → H' = H ∧ xs[i]? = some x
  stop : ∀ i H, Same H0 H → xs.length ≤ i → J.stop i H
theorem seqIt_l {K : PySem.W.Frag} {H0 : Hp} {a : Addr} {xs : List V} (h : SqL K H0 a xs) : SeqIt H0 xs (Itl K a) :=
  ⟨fun i H s l => ⟨xs, xs[i], s.seq h, by simp [l]⟩, fun i H x H' s y => ⟨y.1, y.2 xs (s.seq h)⟩, fun i H s l => ⟨xs, s.seq h, l⟩⟩
theorem seqIt_t {K : PySem.W.Frag} {H0 : Hp} {a : Addr} {xs : List V} (h : SqT K H0 a xs) : SeqIt H0 xs (Itt K a) :=
  ⟨fun i H s l => ⟨xs, xs[i], s.seqT h, by simp [l]⟩, fun i H x H' s y => ⟨y.1, y.2 xs (s.seqT h)⟩, fun i H s l => ⟨xs, s.seqT h, l⟩⟩
theorem seq_pi {K : PySem.W.Frag} {a : Addr} {xs : List V} {i : Nat} {σ : L2.St} {H : Hp} {R : It → Hp → Prop} (h : SqS K H a xs) (hv : σ[i]? = some (some (.ref a))) (hR : ∀ J, SeqIt H xs J → R J H) : iList K (tVar i) σ H R ∨ iTup K (tVar i) σ H R :=
  h.elim (fun h => Or.inl ⟨_, hv, a, rfl, ⟨_, h⟩, hR _ (seqIt_l h)⟩) fun h => Or.inr ⟨_, hv, a, rfl, ⟨_, h⟩, hR _ (seqIt_t h)⟩
theorem for_seq {J : It} {H0 : Hp} {xs : List V} {g : TG} {tb : TS} {D : Ends} {σ : L2.St} {H : Hp} (hJ : SeqIt H0 xs J) (Pv : Nat → L2.St → Hp → Prop) (h0 : Pv 0 σ H) (hl : ∀ i σ H, Pv i σ H → Same H0 H)
    (hs : ∀ i x σ H, xs[i]? = some x → Pv i σ H → g x σ H fun σ2 H2 => tb { D with nx := Pv (i + 1), ct := Pv (i + 1), bk := D.nx } σ2 H2) (hd : ∀ σ H, Pv xs.length σ H → D.nx σ H) :
    ∃ W : Nat → Nat → L2.St → Hp → Prop, (∃ m, W 0 m σ H) ∧ ∀ i m σ H, W i m σ H →
      (J.stop i H ∧ D.nx σ H) ∨ (J.go i H ∧ ∃ N : L2.St → Hp → Prop, (∀ σ' H', N σ' H' → ∃ m', m' < m ∧ W (i + 1) m' σ' H') ∧ ∀ x H', J.yld i H x H' → g x σ H' fun σ2 H2 => tb { D with nx := N, ct := N, bk := D.nx } σ2 H2) := by
  refine ⟨fun i m σ H => m + i = xs.length ∧ Pv i σ H, ⟨xs.length, by omega, h0⟩, fun i m σ H q => ?_⟩
  obtain ⟨em, p⟩ := q
  have s := hl i σ H p
  by_cases hlt : i < xs.length
  · refine Or.inr ⟨hJ.go i H s hlt, Pv (i + 1), fun σ' H' p' => ⟨m - 1, by omega, by omega, p'⟩, fun x H' y => ?_⟩
    obtain ⟨rfl, e⟩ := hJ.yld i H x H' s y
    exact hs i x _ _ e p
  · have e : i = xs.length := by omega
    subst e
    exact Or.inl ⟨hJ.stop _ H s (Nat.le_refl _), hd _ _ p⟩
theorem lc_seq {J : It} {H0 : Hp} {xs : List V} {g : TG} {tt : TT} {te : TE} {vs : List Nat} {σ : L2.St} {H1 : Hp} {D : Addr} {Qd : Hp → Prop} (hJ : SeqIt H0 xs J) (Pv : Nat → Hp → Prop) (h0 : Pv 0 (upd H1 D (.lst []))) (hl : ∀ i H, Pv i H → Same H0 H)
    (hs : ∀ i x H, xs[i]? = some x → Pv i H → g x (wipe σ vs) H fun σ2 H2 => wipe σ2 vs = wipe σ vs ∧ tt σ2 H2 fun b H3 =>
      if b = true then te σ2 H3 fun y H4 => ∃ acc, H4 D = some (.lst acc) ∧ acc.length < sizeLine ∧ Pv (i + 1) (upd H4 D (.lst (acc ++ [y]))) else Pv (i + 1) H3) (hd : ∀ H, Pv xs.length H → Qd H) :
    ∃ W : Nat → Nat → Hp → Prop, (∃ m, W 0 m (upd H1 D (.lst []))) ∧ ∀ i m H, W i m H →
      (J.stop i H ∧ Qd H) ∨ (J.go i H ∧ ∃ Nx : Hp → Prop, (∀ H', Nx H' → ∃ m', m' < m ∧ W (i + 1) m' H') ∧ ∀ x H', J.yld i H x H' → g x (wipe σ vs) H' fun σ2 H2 => wipe σ2 vs = wipe σ vs ∧ tt σ2 H2 fun b H3 =>
        if b = true then te σ2 H3 fun y H4 => ∃ acc, H4 D = some (.lst acc) ∧ acc.length < sizeLine ∧ Nx (upd H4 D (.lst (acc ++ [y]))) else Nx H3) := by
  refine ⟨fun i m H => m + i = xs.length ∧ Pv i H, ⟨xs.length, by omega, h0⟩, fun i m H q => ?_⟩
  obtain ⟨em, p⟩ := q
  have s := hl i H p
  by_cases hlt : i < xs.length
  · refine Or.inr ⟨hJ.go i H s hlt, Pv (i + 1), fun H' p' => ⟨m - 1, by omega, by omega, p'⟩, fun x H' y => ?_⟩
    obtain ⟨rfl, e⟩ := hJ.yld i H x H' s y
    exact hs i x _ e p
  · have e : i = xs.length := by omega
    subst e
    exact Or.inl ⟨hJ.stop _ H s (Nat.le_refl _), hd _ p⟩
theorem new_facts {H H1 : Hp} {p : Addr} {o : HO} (hp : H p = none) (hq : upd H p o = H1) : Same H H1 ∧ H1 p = some o := by
  subst hq
  exact ⟨same_upd hp, upd_same⟩
theorem _root_.L2.Same.upd1 {H0 H : Hp} {p : Addr} {o : HO} (s : Same H0 H) (hp : H0 p = none) : Same H0 (upd H p o) := fun b x e => by
  rw [upd_ne (ne_of_none e hp)]
  exact s _ _ e
end My

/-! a def that is called by an alias -/
namespace My
open PySem PySem.Spec PyProof.Rows L2
/-- y's def stands under the name x -/
structure DfA (K : PySem.W.Frag) (mg : Str → Option Value) (x y : Str) (st : Stmt) (ps : List Str) : Prop where
  ex : ∃ f fd, Fun K y y st f fd ∧ mg x = some (.ref f) ∧ Binds K fd ps []
theorem DfA.own {P : Program} {w : World} {K : PySem.W.Frag} {mg : Str → Option Value} {base : Heap} {x y : Str} {st : Stmt} {ps N : List Str} {k : Nat} {sp : Sp} (D : DfA K mg x y st ps) (S : FnScope N ps (defScope st)) (len : ∀ vs H Q E, sp vs H Q E → vs.length = ps.length)
    (hbody : ∀ (f : Addr) (cdv : Value) (A : Around) (outer : List Env) (s : Shared) (H : Hp) (vs : List V) (Q : VK) (E : XK), Room k (A.deeper (envOfC y (defScope st) s.heap.objs.size f cdv)) → sp vs H Q E →
      ∃ t, PSs (cxOf CX0 P w K mg base N y (defScope st) f cdv A outer s H E).nox (defBody st) t ∧ t { nx := fun _ H' => Q .non H', rt := Q } (start N vs) H) : Own P w K mg base x (k + 1) ps sp := by
  obtain ⟨f, fd, F, m, b⟩ := D.ex
  exact ⟨f, fd, F.ok S len (hbody f), m, F.kp, b⟩
end My

namespace My
open PySem PySem.Spec PyProof.Rows L2
theorem Same.at {H H' : Hp} {a : Addr} {o : HO} (e : Same H H') (h : H a = some o) : H' a = some o := e _ _ h
/-- a comprehension's new list: what f gives of the turns so far -/
structure LcP (H1 : Hp) (D : Addr) (f : Nat → Option V) (i : Nat) (H : Hp) : Prop where
  same : Same H1 H
  lst : H D = some (.lst ((List.range i).filterMap f))
theorem fm_len (f : Nat → Option V) (i : Nat) : ((List.range i).filterMap f).length ≤ i := by
  have := List.length_filterMap_le f (List.range i)
  rw [List.length_range] at this
  exact this
theorem LcP.zero {H1 : Hp} {D : Addr} {f : Nat → Option V} (n : H1 D = none) : LcP H1 D f 0 (upd H1 D (.lst [])) := ⟨same_upd n, upd_same⟩
theorem LcP.yes {H1 H H4 : Hp} {D : Addr} {f : Nat → Option V} {i : Nat} {y : V} (p : LcP H1 D f i H) (s : Same H H4) (n : H1 D = none) (hi : i < sizeLine) (e : f i = some y) :
    ∃ acc, H4 D = some (.lst acc) ∧ acc.length < sizeLine ∧ LcP H1 D f (i + 1) (upd H4 D (.lst (acc ++ [y]))) := by
  refine ⟨_, s _ _ p.lst, Nat.lt_of_le_of_lt (fm_len f i) hi, (p.same.trans s).upd1 n, ?_⟩
  rw [upd_same, List.range_succ, List.filterMap_append, List.filterMap_cons, e, List.filterMap_nil]
theorem LcP.no {H1 H H3 : Hp} {D : Addr} {f : Nat → Option V} {i : Nat} (p : LcP H1 D f i H) (s : Same H H3) (e : f i = none) : LcP H1 D f (i + 1) H3 := by
  refine ⟨p.same.trans s, ?_⟩
  rw [s _ _ p.lst, List.range_succ, List.filterMap_append, List.filterMap_cons, e, List.filterMap_nil, List.append_nil]
theorem fm_join {β : Type} : ∀ (zs : List (Option β)), (List.range zs.length).filterMap (fun i => (zs[i]?).join) = zs.filterMap id
  | [] => rfl
  | z :: zs => by
    rw [List.length_cons, List.range_succ_eq_map, List.filterMap_cons, List.filterMap_map]
    have e : (fun (j : Nat) => ((z :: zs)[j]?).join) ∘ Nat.succ = fun (j : Nat) => (zs[j]?).join := by
      funext j
      rfl
    rw [e, fm_join zs]
    cases z <;> rfl
theorem fm_opt {α β : Type} (xs : List α) (g : α → Option β) : (List.range xs.length).filterMap (fun i => (xs[i]?).bind g) = xs.filterMap g := by
  have e : (fun (i : Nat) => (xs[i]?).bind g) = fun (i : Nat) => ((xs.map g)[i]?).join := by
    funext i
    rw [List.getElem?_map]
    cases xs[i]? <;> rfl
  rw [e, show xs.length = (xs.map g).length from (List.length_map ..).symm, fm_join, List.filterMap_map]
  rfl
theorem fm_get {α β : Type} (xs : List α) (g : α → β) : (List.range xs.length).filterMap (fun i => (xs[i]?).map g) = xs.map g := by
  have e : (fun (i : Nat) => (xs[i]?).map g) = fun (i : Nat) => (xs[i]?).bind fun x => some (g x) := by
    funext i
    cases xs[i]? <;> rfl
  rw [e, fm_opt]
  exact congrFun (List.filterMap_eq_map (f := g)) xs
theorem fm_if {α β : Type} (xs : List α) (p : α → Bool) (g : α → β) : (List.range xs.length).filterMap (fun i => (xs[i]?).bind fun x => if p x = true then some (g x) else none) = (xs.filter p).map g := by
  rw [fm_opt]
  induction xs with
  | nil => rfl
  | cons x xs ih =>
    by_cases c : p x = true
    · rw [List.filterMap_cons, if_pos c, List.filter_cons_of_pos c, List.map_cons, ih]
    · rw [List.filterMap_cons, if_neg c, List.filter_cons_of_neg c, ih]
end My

/-! data on the abstract heap; what the checks of the program say of data -/
namespace My
open PySem PySem.Spec PyProof.Rows L2
/-- what a text must be to be told and compared -/
def okS (x : Str) : Bool := x.cps.all (· < 0x110000) && decide (x.length ≤ 1000)
mutual
/-- v is the data d, in lists and tuples that stand in H -/
inductive Dv (H : Hp) : V → PyData → Prop
  | non : Dv H .non .none
  | bl (b : Bool) : Dv H (.bl b) (.bool b)
  | int (i : Int) : Dv H (.int i) (.int i)
  | str {x : Str} (h : okS x = true) : Dv H (.str x) (.str x)
  | lst {a : Addr} {xs : List V} {ds : List PyData} (e : H a = some (.lst xs)) (h : DvAll H xs ds) (sm : ds.length ≤ 2000) : Dv H (.ref a) (.list ds)
  | tup {a : Addr} {xs : List V} {ds : List PyData} (e : H a = some (.tup xs)) (h : DvAll H xs ds) (sm : ds.length ≤ 2000) : Dv H (.ref a) (.tuple ds)
inductive DvAll (H : Hp) : List V → List PyData → Prop
  | nil : DvAll H [] []
  | cons {v : V} {d : PyData} {vs : List V} {ds : List PyData} (h : Dv H v d) (t : DvAll H vs ds) : DvAll H (v :: vs) (d :: ds)
end
section
variable {K : PySem.W.Frag} {H H' : Hp} {v : V} {d : PyData} {xs ys : List V} {ds es : List PyData}
theorem Dv.same (s : Same H H') (h : Dv H v d) : Dv H' v d :=
  Dv.rec (motive_1 := fun v d _ => Dv H' v d) (motive_2 := fun vs ds _ => DvAll H' vs ds) .non (fun b => .bl b) (fun i => .int i) (fun q => .str q) (fun q _ sm ih => .lst (s _ _ q) ih sm) (fun q _ sm ih => .tup (s _ _ q) ih sm) .nil (fun _ _ a b => .cons a b) h
theorem DvAll.same (s : Same H H') (h : DvAll H xs ds) : DvAll H' xs ds := by
  induction xs generalizing ds with
  | nil =>
    cases h
    exact .nil
  | cons x xs ih =>
    cases h with
    | cons h t => exact .cons (h.same s) (ih t)
theorem Dv.dp (h : Dv H v d) : Dp K H v d :=
  Dv.rec (motive_1 := fun v d _ => Dp K H v d) (motive_2 := fun vs ds _ => DpAll K H vs ds) .non (fun b => .bl b) (fun i => .int i) (fun {x} _ => .str x) (fun q _ _ ih => .lst (SqL.of q) ih) (fun q _ _ ih => .tup (SqT.of q) ih) .nil (fun _ _ a b => .cons a b) h
theorem Dv.lay (h : Dv H v d) : d.canLay0 = true :=
  Dv.rec (motive_1 := fun _ d _ => d.canLay0 = true) (motive_2 := fun _ ds _ => PyData.canLayAll0 ds = true) rfl (fun _ => rfl) (fun _ => rfl) (fun {x} q => (Bool.and_eq_true_iff.mp q).1) (fun _ _ _ ih => ih) (fun _ _ _ ih => ih) rfl
    (fun {_ d _ ds} _ _ a b => by
      show (PyData.canLay0 d && PyData.canLayAll0 ds) = true
      rw [a, b]
      rfl) h
theorem DvAll.len (h : DvAll H xs ds) : xs.length = ds.length := by
  induction xs generalizing ds with
  | nil =>
    cases h
    rfl
  | cons x xs ih =>
    cases h with
    | cons h t => rw [List.length_cons, List.length_cons, ih t]
theorem DvAll.get (h : DvAll H xs ds) {i : Nat} {x : V} (e : xs[i]? = some x) : ∃ d, ds[i]? = some d ∧ Dv H x d := by
  induction xs generalizing ds i with
  | nil => cases i <;> cases e
  | cons y xs ih =>
    cases h with
    | cons h t =>
      cases i with
      | zero =>
        cases e
        exact ⟨_, rfl, h⟩
      | succ i => exact ih t e
theorem DvAll.app (h : DvAll H xs ds) (g : DvAll H ys es) : DvAll H (xs ++ ys) (ds ++ es) := by
  induction xs generalizing ds with
  | nil =>
    cases h
    exact g
  | cons x xs ih =>
    cases h with
    | cons h t => exact .cons h (ih t)
theorem DvAll.inv {d : PyData} (h : DvAll H xs (d :: ds)) : ∃ x ys, xs = x :: ys ∧ Dv H x d ∧ DvAll H ys ds := by
  cases h with
  | cons h t => exact ⟨_, _, rfl, h, t⟩
theorem DvAll.inv0 (h : DvAll H xs []) : xs = [] := by
  cases h
  rfl
end
/-- texts -/
theorem dvAll_str {H : Hp} : ∀ {ss : List Str}, (∀ x ∈ ss, okS x = true) → DvAll H (ss.map V.str) (ss.map PyData.str)
  | [], _ => .nil
  | x :: ss, h => .cons (.str (h x List.mem_cons_self)) (dvAll_str fun y hy => h y (List.mem_cons_of_mem _ hy))
/-! ## the types -/
def tyD : PyData → String
  | .none => "NoneType"
  | .bool _ => "bool"
  | .int _ => "int"
  | .str _ => "str"
  | .list _ => "list"
  | .tuple _ => "tuple"
  | .dict _ => "dict"
def isIntD : PyData → Bool
  | .int _ => true
  | _ => false
def isNumD : PyData → Bool
  | .int i => decide (0 ≤ i)
  | _ => false
def isStrD : PyData → Bool
  | .str _ => true
  | _ => false
def isTupD : PyData → Bool
  | .tuple _ => true
  | _ => false
def isSeqD : PyData → Bool
  | .list _ => true
  | .tuple _ => true
  | _ => false
/-- what stands in it, if it is a list or a tuple -/
def itemsD : PyData → List PyData
  | .list ds => ds
  | .tuple ds => ds
  | _ => []
def isTupND (n : Int) : PyData → Bool
  | .tuple ds => decide ((ds.length : Int) = n)
  | _ => false
/-- a small letter's code -/
def isLow (c : Nat) : Bool := decide (97 ≤ c) && decide (c ≤ 122)
def nameS (x : Str) : Bool := decide (1 ≤ x.length) && (decide (x.length ≤ 5) && x.cps.toList.all isLow)
def isNameD : PyData → Bool
  | .str x => nameS x
  | _ => false
def isLinkD : PyData → Bool
  | .tuple [f, t, m, l] => isStrD f && (isStrD t && (isNumD m && isNumD l))
  | _ => false
section
variable {K : PySem.W.Frag} {H : Hp} {v : V} {d : PyData} {Q : VK}
theorem Dv.ty (h : Dv H v d) : TyX K H v (.type (tyD d)) := by
  cases h with
  | non => exact .base .non
  | bl b => exact .base (.bl b)
  | int i => exact .base (.int i)
  | str h => exact .base (.str _)
  | lst e _ _ => exact .base (.lst e)
  | tup e _ _ => exact .base (.tup e)
theorem kb_int (d : PyData) : kitB (tyD d) "int" = some (match d with | .int _ => true | .bool _ => true | _ => false) := by cases d <;> (simp only [tyD, isStrD, isTupD]; decide +kernel)
theorem kb_bool (d : PyData) : kitB (tyD d) "bool" = some (match d with | .bool _ => true | _ => false) := by cases d <;> (simp only [tyD, isStrD, isTupD]; decide +kernel)
theorem kb_str (d : PyData) : kitB (tyD d) "str" = some (isStrD d) := by cases d <;> (simp only [tyD, isStrD, isTupD]; decide +kernel)
theorem kb_list (d : PyData) : kitB (tyD d) "list" = some (match d with | .list _ => true | _ => false) := by cases d <;> (simp only [tyD, isStrD, isTupD]; decide +kernel)
theorem kb_tuple (d : PyData) : kitB (tyD d) "tuple" = some (isTupD d) := by cases d <;> (simp only [tyD, isStrD, isTupD]; decide +kernel)
theorem rd_str (h : Dv H v d) (q : Q (.bl (isStrD d)) H) : rIsi K [v, .ty "str"] H Q := rd_isi _ _ h.ty (kb_str d) q
theorem rd_tuple (h : Dv H v d) (q : Q (.bl (isTupD d)) H) : rIsi K [v, .ty "tuple"] H Q := rd_isi _ _ h.ty (kb_tuple d) q
theorem rd_seq {tp : Addr} (h : Dv H v d) (e : H tp = some (.tup [.ty "list", .ty "tuple"])) (q : Q (.bl (isSeqD d)) H) : rIsiT K [v, .ref tp] H Q := by
  refine rd_isi2 _ _ _ e h.ty (kb_list d) (kb_tuple d) ?_
  cases d <;> exact q
/-- a list or a tuple as it stands -/
theorem Dv.seq (h : Dv H v d) (s : isSeqD d = true) : ∃ a xs, v = .ref a ∧ SqS K H a xs ∧ DvAll H xs (itemsD d) ∧ (itemsD d).length ≤ 2000 ∧ (H a = some (.lst xs) ∨ H a = some (.tup xs)) := by
  cases h with
  | lst e h sm => exact ⟨_, _, rfl, Or.inl (SqL.of e), h, sm, Or.inl e⟩
  | tup e h sm => exact ⟨_, _, rfl, Or.inr (SqT.of e), h, sm, Or.inr e⟩
  | _ => cases s
theorem Dv.tupE (h : Dv H v d) (s : isTupD d = true) : ∃ a xs ds, v = .ref a ∧ d = .tuple ds ∧ H a = some (.tup xs) ∧ DvAll H xs ds ∧ ds.length ≤ 2000 := by
  cases h with
  | tup e h sm => exact ⟨_, _, _, rfl, rfl, e, h, sm⟩
  | _ => cases s
theorem isTupN_tup {n : Int} (d : PyData) : isTupND n d = true → isTupD d = true := by
  cases d <;> intro h <;> first | rfl | cases h
end
end My

namespace My
open PySem PySem.Spec PyProof.Rows L2
def topS (i : Nat) : Stmt := PySem.Challenge.pw_waitworks_k88_goings_and_counts.main.body.getD i (.Pass ⟨0, 0, 0, 0⟩)
/-- what of the built-in names is still built-in -/
structure Txt (mg : Str → Option Value) : Prop where
  max : mg "max" = none
  min : mg "min" = none
  int : mg "int" = none
  len : mg "len" = none
  abs : mg "abs" = none
  range : mg "range" = none
  isinstance : mg "isinstance" = none
  bool : mg "bool" = none
  list : mg "list" = none
  tuple : mg "tuple" = none
  all : mg "all" = none
  repr : mg "repr" = none
  zip : mg "zip" = none
  divmod : mg "divmod" = none
end My

namespace My
open PySem PySem.Spec PyProof.Rows L2
local macro_rules | `(tactic| walk_at "wp_side") => `(tactic| first | (dsimp only; omega) | exact ⟨by omega, by omega⟩ | exact Or.inl ⟨by omega, by omega⟩ | exact Or.inr ⟨by omega, by omega⟩ | decide)
local macro_rules | `(tactic| walk_at "wp1") => `(tactic| first
  | refine ⟨_, rfl, ?_⟩
  | refine ⟨_, _, rfl, rfl, (by walk_at "wp_side"), ?_⟩
  | refine ⟨_, _, rfl, rfl, ?_⟩
  | refine ⟨_, _, _, _, rfl, rfl, SqL.of (by first | assumption | exact upd_same), rfl, ?_⟩
  | refine ⟨_, _, _, _, rfl, rfl, (by first | assumption | exact upd_same), rfl, ?_⟩
  | refine ⟨_, _, rfl, Or.inl (by assumption), ?_⟩
  | refine Or.inl ⟨_, rfl, ?_⟩)
local macro_rules | `(tactic| walk_at "wps") => `(tactic| repeat walk_at "wp1")
local macro_rules | `(tactic| walk_at "side") => `(tactic| first | (dsimp only; omega) | exact ⟨by omega, by omega⟩ | exact Or.inl ⟨by omega, by omega⟩ | exact Or.inr ⟨by omega, by omega⟩ | decide)
local macro_rules | `(tactic| walk_at "sq") => `(tactic| first | assumption | exact SqL.of (by assumption) | exact SqT.of (by assumption) | (refine L2.Same.seq (by assumption) ?_; walk_at "sq") | (refine L2.Same.seqT (by assumption) ?_; walk_at "sq") | exact Or.inl (by walk_at "sq") | exact Or.inr (by walk_at "sq"))
local macro_rules | `(tactic| walk_at "1") => `(tactic| first
  | refine ⟨_, rfl, iteT ?_⟩
  | refine ⟨_, rfl, iteF ?_⟩
  | refine ⟨_, rfl, ?_⟩
  | refine ⟨_, _, rfl, rfl, (by walk_at "side"), ?_⟩
  | refine ⟨_, _, rfl, rfl, ?_⟩
  | refine ⟨_, _, _, _, true, rfl, .ty _, .base (.int _), kit_ty (a := "int") (by decide +kernel), ?_⟩
  | refine ⟨_, _, _, _, false, rfl, .ty _, .base (.int _), kit_ty (a := "int") (by decide +kernel), ?_⟩
  | refine ⟨_, _, rfl, (by walk_at "sq"), ?_⟩
  | refine ⟨_, _, _, _, rfl, rfl, (by walk_at "sq"), (by first | rfl | assumption), ?_⟩
  | refine Or.inl ⟨_, _, _, _, rfl, rfl, (by walk_at "sq"), (by first | rfl | assumption), ?_⟩
  | refine Or.inr (Or.inl ⟨_, _, _, _, rfl, rfl, (by walk_at "sq"), (by first | rfl | assumption), ?_⟩)
  | refine ⟨_, _, rfl, Or.inl ⟨(by walk_at "sq"), ?_⟩⟩
  | refine ⟨rfl, ?_⟩
  | refine iteT ?_
  | refine iteF ?_
  | refine ⟨_, _, _, _, _, rfl, (by assumption), (by assumption), (by assumption), (by assumption), ?_⟩
  | refine Or.inl ⟨_, rfl, ?_⟩
  | refine ⟨_, _, rfl, (by walk_at "side"), ?_⟩
  | refine ⟨_, _, rfl, ?_⟩)
local macro_rules | `(tactic| walk_at "fld") => `(tactic| skip)
local macro_rules | `(tactic| walk_at "s") => `(tactic| repeat walk_at "1")
local macro_rules | `(tactic| walk_at "size") => `(tactic| first | exact Nat.le_of_ble_eq_true rfl | (simp only [List.length_map, List.length_append, List.length_cons, List.length_nil]; omega))
local macro_rules | `(tactic| walk_at "new") => `(tactic| (first | refine ⟨(by walk_at "size"), fun p hp => ?_⟩ | refine fun p hp => ?_); (generalize hq : upd _ p _ = H1); (obtain ⟨s, e⟩ := new_facts hp hq); clear hq)

theorem upd_facts {H H1 : Hp} {p : Addr} {o : HO} (hq : upd H p o = H1) : H1 p = some o ∧ ∀ b, b ≠ p → H1 b = H b := by
  subst hq
  exact ⟨upd_same, fun b h => upd_ne h⟩

/-- a box of draws -/
def BoxAt (H : Hp) (b : Addr) : Prop := ∃ x y z : Int, 0 ≤ x ∧ H b = some (.lst [.int x, .int y, .int z])
/-- all but the box stands -/
def Bx (b : Addr) (H H' : Hp) : Prop := ∀ c o, c ≠ b → H c = some o → H' c = some o
theorem Bx.of {b : Addr} {H H' : Hp} (s : Same H H') : Bx b H H' := fun c o _ e => s c o e
theorem Bx.trans {b : Addr} {H H1 H2 : Hp} (s : Bx b H H1) (t : Bx b H1 H2) : Bx b H H2 := fun c o n e => t c o n (s c o n e)
theorem Bx.upd {b : Addr} {H : Hp} {o : HO} : Bx b H (upd H b o) := fun c x n e => by
  rw [upd_ne n]
  exact e
theorem Bx.same {b : Addr} {H0 H H' : Hp} (s : Bx b H H') (h : Same H0 H) (n : H0 b = none) : Same H0 H' := fun c o e => s c o (ne_of_none e n) (h c o e)
theorem BoxAt.same {b : Addr} {H H' : Hp} (h : BoxAt H b) (s : Same H H') : BoxAt H' b := by
  obtain ⟨x, y, z, h0, h1⟩ := h
  exact ⟨x, y, z, h0, s _ _ h1⟩
theorem BoxAt.ne {b p : Addr} {H : Hp} (h : BoxAt H b) (n : H p = none) : p ≠ b := by
  obtain ⟨x, y, z, h0, h1⟩ := h
  exact (ne_of_none h1 n).symm
def spTake : Sp := fun vs H Q _ => ∃ (b : Addr) (m : Nat), vs = [.ref b, .int m] ∧ 0 < m ∧ m < 1073741824 ∧ BoxAt H b ∧ ∀ (H' : Hp) (n : Nat), n < m → Bx b H H' → BoxAt H' b → Q (.int n) H'
def spBox (K : PySem.W.Frag) : Sp := fun vs H Q _ => ∃ (a : Addr) (ns : List Int) (k : Nat), vs = [.ref a, .int k] ∧ SqL K H a (ns.map V.int) ∧ ns.length ≤ 63 ∧
  ∀ (H' : Hp) (p : Addr), Same H H' → H p = none → BoxAt H' p → Q (.ref p) H'
section
variable {P : Program} {w : World} {K : PySem.W.Frag} {mg : Str → Option Value} {base : Heap} {C : Addr}
abbrev s_law_take : Stmt := topS 51
theorem sc_law_take : FnScope ["box", "many", "digit", "near"] ["box", "many"] (defScope s_law_take) := ⟨rfl, rfl, rfl, by decide +kernel, rfl, by decide +kernel, by decide +kernel⟩
theorem ok_take (D : Df K mg "_law_take" s_law_take ["box", "many"]) (T : Txt mg) : Own P w K mg base "_law_take" 1 ["box", "many"] spTake := by
  refine D.own sc_law_take (fun vs H Q E h => ?_) (fun fa cdv A outer s H vs Q E hr h => ?_)
  · obtain ⟨_, _, rfl, _⟩ := h
    rfl
  · obtain ⟨b, m, rfl, m0, m1, ⟨x, y, z, x0, hb⟩, k⟩ := h
    have h8 : (0:Int) < 8191 ∧ (8191:Int) < 1073741824 := by decide
    have fin : ∀ (i x' y' z' : Int), 0 ≤ i → i < m → 0 ≤ x' → Q (.int i) (upd H b (.lst [.int x', .int y', .int z'])) := fun i x' y' z' i0 i1 hx => by
      have := k (upd H b (.lst [.int x', .int y', .int z'])) i.toNat (by omega) Bx.upd ⟨x', y', z', hx, upd_same⟩
      rw [show ((i.toNat : Nat) : Int) = i by omega] at this
      exact this
    refine ⟨_, (pss_cons (ps_if (pt_cmpR op_gt (pe_ix ix_list (pv 0) pe_int (fun _ _ => rfl)) pe_int (nomark _))
    (pss_cons (ps_set (i := 2) sc_law_take.nd rfl (Or.inl rfl) (pe_op op_mod (pe_callTy call_int1 (by rfl) T.int (by decide +kernel) (pa_cons (pe_ix ix_list (pv 0) pe_int (fun _ _ => rfl)) pa_nil)) (pv 1)))
      (pss_cons (ps_asg (pe_op op_fdiv (pe_ix ix_list (pv 0) pe_int (fun _ _ => rfl)) (pv 1)) (pg_sub (pv 0) pe_int set_list))
      (pss_one (ps_ret (pv 2)))))
    pss_nil)
  (pss_cons (ps_asg (pe_op op_add (pe_ix ix_list (pv 0) pe_int (fun _ _ => rfl)) pe_int) (pg_sub (pv 0) pe_int set_list))
  (pss_cons (ps_set (i := 3) sc_law_take.nd rfl (Or.inl rfl) (pe_op op_mod (pe_callTy call_int1 (by rfl) T.int (by decide +kernel) (pa_cons (pe_op op_mul (pe_op op_add (pe_ix ix_list (pv 0) pe_int (fun _ _ => rfl)) (pe_op op_mul pe_int (pe_ix ix_list (pv 0) pe_int (fun _ _ => rfl)))) pe_int) pa_nil)) pe_int))
  (pss_cons (ps_asg (pe_op op_add (pe_op op_mod (pe_callTy call_int1 (by rfl) T.int (by decide +kernel) (pa_cons (pe_op op_add (pe_op op_mul (pv 3) pe_int) pe_int) pa_nil)) pe_int) pe_int) (pg_sub (pv 0) pe_int set_list))
  (pss_one (ps_ret (pe_op op_mod (pe_callTy call_int1 (by rfl) T.int (by decide +kernel) (pa_cons (pe_op op_fdiv (pe_op op_add (pe_op op_mul (pv 3) pe_int) (pe_ix ix_list (pv 0) pe_int (fun _ _ => rfl))) pe_int) pa_nil)) (pv 1)))))))), ?_⟩
    walk_at "wps"
    refine ite2 (fun c => ?_) (fun c => ?_)
    · have c' : 0 < x := by simpa using c
      walk_at "wps"
      exact fin _ _ _ _ (Int.emod_nonneg _ (by omega)) (Int.emod_lt_of_pos _ (by omega)) (Int.ediv_nonneg x0 (by omega))
    · walk_at "wps"
      rw [upd_upd]
      exact fin _ _ _ _ (Int.emod_nonneg _ (by omega)) (Int.emod_lt_of_pos _ (by omega)) x0
abbrev s_law_box : Stmt := topS 50
theorem sc_law_box : FnScope ["script", "k", "great", "seed"] ["script", "k"] (defScope s_law_box) := ⟨rfl, rfl, rfl, by decide +kernel, rfl, by decide +kernel, by decide +kernel⟩
theorem ok_box (D : Df K mg "_law_box" s_law_box ["script", "k"]) (T : Txt mg) : Own P w K mg base "_law_box" 1 ["script", "k"] (spBox K) := by
  refine D.own sc_law_box (fun vs H Q E h => ?_) (fun fa cdv A outer s H vs Q E hr h => ?_)
  · obtain ⟨_, _, _, rfl, _⟩ := h
    rfl
  · obtain ⟨a, ns, k, rfl, hS, hlen, kk⟩ := h
    refine ⟨_, (pss_cons (ps_set (i := 2) sc_law_box.nd rfl (Or.inl rfl) (pe_op op_add (pe_op op_mul pe_int (pv 1)) pe_int))
  (C8.pss_cut (ps_if (pt_cmpR op_lt (pv 1) (pe_callB call_len_seq (by rfl) T.len PySem.boot_len (pa_cons (pv 0) pa_nil)) (nomark _))
    (pss_one (ps_set (i := 2) sc_law_box.nd rfl (Or.inl rfl) (pe_callB call_abs (by rfl) T.abs (by decide +kernel) (pa_cons (pe_callTy call_int1 (by rfl) T.int (by decide +kernel) (pa_cons (pe_ix ix_list (pv 0) (pv 1) (fun _ _ => rfl)) pa_nil)) pa_nil))))
    (pss_one (ps_if (pt_cmpR op_gt (pe_callB call_len_seq (by rfl) T.len PySem.boot_len (pa_cons (pv 0) pa_nil)) pe_int (nomark _))
        (pss_one (ps_set (i := 2) sc_law_box.nd rfl (Or.inl rfl) (pe_op op_add (pv 2) (pe_op op_mul (pe_op op_mod (pe_callTy call_int1 (by rfl) T.int (by decide +kernel) (pa_cons (pe_ix ix_list (pv 0) (pe_op op_mod (pe_callTy call_int1 (by rfl) T.int (by decide +kernel) (pa_cons (pv 1) pa_nil)) (pe_callB call_len_seq (by rfl) T.len PySem.boot_len (pa_cons (pv 0) pa_nil))) (fun _ _ => rfl)) pa_nil)) pe_int) pe_int))))
        pss_nil)))
  (pss_cons (ps_set (i := 3) sc_law_box.nd rfl (Or.inl rfl) (pe_op op_add (pe_op op_mod (pe_callTy call_int1 (by rfl) T.int (by decide +kernel) (pa_cons (pe_op op_add (pe_op op_add (pe_op op_mul (pe_op op_mod (pe_callTy call_int1 (by rfl) T.int (by decide +kernel) (pa_cons (pv 2) pa_nil)) pe_int) pe_int) (pe_op op_mul pe_int (pv 1))) pe_int) pa_nil)) pe_int) pe_int))
  (pss_one (ps_ret (pe_lst (pa_cons (pe_ix ix_list (pe_lst (pa_cons pe_int (pa_cons (pv 2) pa_nil))) (pe_callTy call_int1 (by rfl) T.int (by decide +kernel) (pa_cons (pe_cmpR op_ge (pv 2) (pe_op op_pow pe_int pe_int) (nomark _)) pa_nil)) (fun _ _ => rfl)) (pa_cons (pv 3) (pa_cons pe_int pa_nil))))))))), ?_⟩
    walk_at "wps"
    refine ⟨fun σ' H' => (∃ c : Int, σ' = [some (.ref a), some (.int (k : Int)), some (.int c), none]) ∧ H' = H, ?_, ?_⟩
    · walk_at "wps"
      have hl : ((ns.map V.int).length : Int) = (ns.length : Int) := by rw [List.length_map]
      refine ite2 (fun c => ?_) (fun c => ?_)
      · have c' : k < ns.length := by
          have c2 : (k : Int) < ((ns.map V.int).length : Int) := by simpa using c
          omega
        walk_at "wps"
        refine ⟨_, _, _, _, rfl, rfl, hS, atI_nat (List.getElem?_eq_getElem (by rw [List.length_map]; exact c')), ?_⟩
        rw [List.getElem_map]
        walk_at "wps"
        exact ⟨⟨_, rfl⟩, rfl⟩
      · walk_at "wps"
        refine ite2 (fun d => ?_) (fun d => ?_)
        · have d' : 0 < ns.length := by
            have d2 : (0 : Int) < ((ns.map V.int).length : Int) := by simpa using d
            omega
          have hm : (k : Int) % ((ns.map V.int).length : Int) = ((k % ns.length : Nat) : Int) := by rw [hl]; simp
          have lt : k % ns.length < (ns.map V.int).length := by rw [List.length_map]; exact Nat.mod_lt _ d'
          walk_at "wps"
          refine ⟨_, _, _, _, rfl, rfl, hS, at_of hm (List.getElem?_eq_getElem lt), ?_⟩
          rw [List.getElem_map]
          walk_at "wps"
          exact ⟨⟨_, rfl⟩, rfl⟩
        · exact ⟨⟨_, rfl⟩, rfl⟩
    · rintro σ' H' ⟨⟨c, rfl⟩, rfl⟩
      walk_at "wps"
      refine ⟨Nat.le_of_ble_eq_true rfl, fun q hq => ?_⟩
      walk_at "wps"
      refine Or.inr ⟨_, rfl, ?_⟩
      have s1 : Same H' (upd H' q (.lst [.int 0, .int c])) := fun b o e => by
        rw [upd_ne (ne_of_none e hq)]
        exact e
      have fin : ∀ x : Int, 0 ≤ x → ∀ y : Int, ∀ p : Addr, upd H' q (.lst [.int 0, .int c]) p = none → Q (.ref p) (upd (upd H' q (.lst [.int 0, .int c])) p (.lst [.int x, .int y, .int 0])) := fun x x0 y p hp =>
        kk _ p (s1.trans fun b o e => by rw [upd_ne (ne_of_none e hp)]; exact e) (s1.free hp) ⟨x, y, 0, x0, upd_same⟩
      by_cases big : (10 : Int) ^ (18 : Int).toNat ≤ c
      · rw [decide_eq_true big]
        refine ⟨_, _, _, _, rfl, rfl, SqL.of upd_same, rfl, ?_⟩
        walk_at "wps"
        exact ⟨Nat.le_of_ble_eq_true rfl, fun p hp => fin c (Int.le_trans (by decide) big) _ p hp⟩
      · rw [decide_eq_false big]
        refine ⟨_, _, _, _, rfl, rfl, SqL.of upd_same, rfl, ?_⟩
        walk_at "wps"
        exact ⟨Nat.le_of_ble_eq_true rfl, fun p hp => fin 0 (Int.le_refl _) _ p hp⟩
abbrev s_law_pick : Stmt := topS 52
theorem sc_law_pick : FnScope ["box", "some"] ["box", "some"] (defScope s_law_pick) := ⟨rfl, rfl, rfl, by decide +kernel, rfl, by decide +kernel, by decide +kernel⟩
def spPick : Sp := fun vs H Q _ => ∃ (b a : Addr) (xs : List V), vs = [.ref b, .ref a] ∧ BoxAt H b ∧ a ≠ b ∧ H a = some (.lst xs) ∧ 0 < xs.length ∧ xs.length < 1000 ∧ ∀ (H' : Hp) (x : V), x ∈ xs → Bx b H H' → BoxAt H' b → Q x H'
theorem ok_pick (D : Df K mg "_law_pick" s_law_pick ["box", "some"]) (T : Txt mg) (o_law_take : Own P w K mg base "_law_take" 1 ["box", "many"] spTake) : Own P w K mg base "_law_pick" 2 ["box", "some"] spPick := by
  refine D.own sc_law_pick (fun vs H Q E h => ?_) (fun fa cdv A outer s H vs Q E hr h => ?_)
  · obtain ⟨_, _, _, rfl, _⟩ := h
    rfl
  · obtain ⟨b, a, xs, rfl, hb, nab, ha, l0, l1, k⟩ := h
    refine ⟨_, (pss_one (ps_ret (pe_ix ix_list (pv 1) (pe_own o_law_take (hr.mono (by decide)) (pa_cons (pv 0) (pa_cons (pe_callB call_len_seq (by rfl) T.len PySem.boot_len (pa_cons (pv 1) pa_nil)) pa_nil))) (fun _ _ => rfl)))), ?_⟩
    walk_at "s"
    refine ⟨by omega, hb, fun H1 n hn s1 b1 => ?_⟩
    have ha1 := s1 _ _ nab ha
    have hx : xs[n]? = some xs[n] := List.getElem?_eq_getElem hn
    refine ⟨_, _, _, _, rfl, rfl, SqL.of ha1, atI_nat hx, ?_⟩
    exact k _ _ (List.getElem_mem hn) s1 b1
end
end My

namespace My
open PySem PySem.Spec PyProof.Rows L2
local macro_rules | `(tactic| walk_at "side") => `(tactic| first | (dsimp only; omega) | exact ⟨by omega, by omega⟩ | exact Or.inl ⟨by omega, by omega⟩ | exact Or.inr ⟨by omega, by omega⟩ | decide)
local macro_rules | `(tactic| walk_at "sq") => `(tactic| first | assumption | exact SqL.of (by assumption) | exact SqT.of (by assumption) | (refine L2.Same.seq (by assumption) ?_; walk_at "sq") | (refine L2.Same.seqT (by assumption) ?_; walk_at "sq") | exact Or.inl (by walk_at "sq") | exact Or.inr (by walk_at "sq"))
local macro_rules | `(tactic| walk_at "1") => `(tactic| first
  | refine ⟨_, rfl, iteT ?_⟩
  | refine ⟨_, rfl, iteF ?_⟩
  | refine ⟨_, rfl, ?_⟩
  | refine ⟨_, _, rfl, rfl, (by walk_at "side"), ?_⟩
  | refine ⟨_, _, rfl, rfl, ?_⟩
  | refine ⟨_, _, _, _, true, rfl, .ty _, .base (.int _), kit_ty (a := "int") (by decide +kernel), ?_⟩
  | refine ⟨_, _, _, _, false, rfl, .ty _, .base (.int _), kit_ty (a := "int") (by decide +kernel), ?_⟩
  | refine ⟨_, _, rfl, (by walk_at "sq"), ?_⟩
  | refine ⟨_, _, _, _, rfl, rfl, (by walk_at "sq"), (by first | rfl | assumption), ?_⟩
  | refine Or.inl ⟨_, _, _, _, rfl, rfl, (by walk_at "sq"), (by first | rfl | assumption), ?_⟩
  | refine Or.inr (Or.inl ⟨_, _, _, _, rfl, rfl, (by walk_at "sq"), (by first | rfl | assumption), ?_⟩)
  | refine ⟨_, _, rfl, Or.inl ⟨(by walk_at "sq"), ?_⟩⟩
  | refine ⟨rfl, ?_⟩
  | refine iteT ?_
  | refine iteF ?_
  | refine ⟨_, _, _, _, _, rfl, (by assumption), (by assumption), (by assumption), (by assumption), ?_⟩
  | refine Or.inl ⟨_, rfl, ?_⟩
  | refine Or.inr ⟨_, rfl, ?_⟩
  | refine ⟨_, _, rfl, (by walk_at "side"), ?_⟩
  | refine ⟨_, _, rfl, ?_⟩)
local macro_rules | `(tactic| walk_at "fld") => `(tactic| skip)
local macro_rules | `(tactic| walk_at "s") => `(tactic| repeat walk_at "1")
local macro_rules | `(tactic| walk_at "size") => `(tactic| first | exact Nat.le_of_ble_eq_true rfl | (simp only [List.length_map, List.length_append, List.length_cons, List.length_nil]; omega))
local macro_rules | `(tactic| walk_at "new") => `(tactic| (first | refine ⟨(by walk_at "size"), fun p hp => ?_⟩ | refine fun p hp => ?_); (generalize hq : upd _ p _ = H1); (obtain ⟨s, e⟩ := new_facts hp hq); clear hq)

/-- a check of one thing -/
def spD (f : PyData → Bool) : Sp := fun vs H Q _ => ∃ (v : V) (d : PyData), vs = [v] ∧ Dv H v d ∧ ∀ H', Same H H' → Q (.bl (f d)) H'
section
variable {P : Program} {w : World} {K : PySem.W.Frag} {mg : Str → Option Value} {base : Heap}
abbrev s_is_integer : Stmt := topS 8
theorem sc_is_integer : FnScope ["value"] ["value"] (defScope s_is_integer) := ⟨rfl, rfl, rfl, by decide +kernel, rfl, by decide +kernel, by decide +kernel⟩
theorem ok_is_integer (D : Df K mg "is_integer" s_is_integer ["value"]) (T : Txt mg) : Own P w K mg base "is_integer" 1 ["value"] (spD isIntD) := by
  refine D.own sc_is_integer (fun vs H Q E h => ?_) (fun f cdv A outer s H vs Q E hr h => ?_)
  · obtain ⟨_, _, rfl, _⟩ := h
    rfl
  · obtain ⟨v, d, rfl, hv, k⟩ := h
    refine ⟨_, (pss_one (ps_ret (pe_and (pe_callB call_isi (by rfl) T.isinstance (by decide +kernel) (pa_cons (pv 0) (pa_cons (pe_bltn (v := .ty "int") (u := .type "int") (by rfl) T.int (by decide +kernel) rfl) pa_nil))) (pe_one (pe_not (pe_callB call_isi (by rfl) T.isinstance (by decide +kernel) (pa_cons (pv 0) (pa_cons (pe_bltn (v := .ty "bool") (u := .type "bool") (by rfl) T.bool (by decide +kernel) rfl) pa_nil)))))))), ?_⟩
    refine ⟨_, rfl, _, _, _, _, _, rfl, .ty _, hv.ty, kit_ty (kb_int d), _, rfl, ?_⟩
    cases d with
    | int i =>
      refine iteT ?_
      exact ⟨_, rfl, _, _, _, _, _, rfl, .ty _, hv.ty, kit_ty (kb_bool _), false, rfl, k _ (Same.refl _)⟩
    | bool b =>
      refine iteT ?_
      exact ⟨_, rfl, _, _, _, _, _, rfl, .ty _, hv.ty, kit_ty (kb_bool _), true, rfl, k _ (Same.refl _)⟩
    | _ =>
      refine iteF ?_
      exact k _ (Same.refl _)
abbrev s_is_number : Stmt := topS 9
theorem sc_is_number : FnScope ["value"] ["value"] (defScope s_is_number) := ⟨rfl, rfl, rfl, by decide +kernel, rfl, by decide +kernel, by decide +kernel⟩
theorem ok_is_number (D : Df K mg "is_number" s_is_number ["value"]) (o_is_integer : Own P w K mg base "is_integer" 1 ["value"] (spD isIntD)) : Own P w K mg base "is_number" 2 ["value"] (spD isNumD) := by
  refine D.own sc_is_number (fun vs H Q E h => ?_) (fun f cdv A outer s H vs Q E hr h => ?_)
  · obtain ⟨_, _, rfl, _⟩ := h
    rfl
  · obtain ⟨v, d, rfl, hv, k⟩ := h
    refine ⟨_, (pss_one (ps_ret (pe_and (pe_own o_is_integer (hr.mono (by decide)) (pa_cons (pv 0) pa_nil)) (pe_one (pe_cmpR op_ge (pv 0) pe_int (nomark _)))))), ?_⟩
    refine ⟨_, rfl, _, d, rfl, hv, fun H1 s1 => ⟨_, rfl, ?_⟩⟩
    cases d with
    | int i =>
      cases hv
      refine iteT ?_
      exact ⟨_, rfl, _, _, rfl, rfl, k _ s1⟩
    | _ =>
      refine iteF ?_
      exact k _ s1
abbrev s_is_sequence : Stmt := topS 10
theorem sc_is_sequence : FnScope ["value"] ["value"] (defScope s_is_sequence) := ⟨rfl, rfl, rfl, by decide +kernel, rfl, by decide +kernel, by decide +kernel⟩
theorem ok_is_sequence (D : Df K mg "is_sequence" s_is_sequence ["value"]) (T : Txt mg) : Own P w K mg base "is_sequence" 1 ["value"] (spD isSeqD) := by
  refine D.own sc_is_sequence (fun vs H Q E h => ?_) (fun f cdv A outer s H vs Q E hr h => ?_)
  · obtain ⟨_, _, rfl, _⟩ := h
    rfl
  · obtain ⟨v, d, rfl, hv, k⟩ := h
    refine ⟨_, (pss_one (ps_ret (pe_callB call_isiT (by rfl) T.isinstance (by decide +kernel) (pa_cons (pv 0) (pa_cons (pe_tup (pa_cons (pe_bltn (v := .ty "list") (by rfl) T.list (by decide +kernel) rfl) (pa_cons (pe_bltn (v := .ty "tuple") (by rfl) T.tuple (by decide +kernel) rfl) pa_nil))) pa_nil))))), ?_⟩
    refine ⟨_, rfl, Nat.le_of_ble_eq_true rfl, fun p np => ?_⟩
    generalize hq : upd H p _ = H1
    obtain ⟨s1, e1⟩ := new_facts np hq
    exact rd_seq (hv.same s1) e1 (k _ s1)
abbrev s_is_tuple_of : Stmt := topS 11
theorem sc_is_tuple_of : FnScope ["value", "many"] ["value", "many"] (defScope s_is_tuple_of) := ⟨rfl, rfl, rfl, by decide +kernel, rfl, by decide +kernel, by decide +kernel⟩
def spTupOf : Sp := fun vs H Q _ => ∃ (v : V) (d : PyData) (n : Int), vs = [v, .int n] ∧ Dv H v d ∧ ∀ H', Same H H' → Q (.bl (isTupND n d)) H'
theorem ok_is_tuple_of (D : Df K mg "is_tuple_of" s_is_tuple_of ["value", "many"]) (T : Txt mg) : Own P w K mg base "is_tuple_of" 1 ["value", "many"] spTupOf := by
  refine D.own sc_is_tuple_of (fun vs H Q E h => ?_) (fun f cdv A outer s H vs Q E hr h => ?_)
  · obtain ⟨_, _, _, rfl, _⟩ := h
    rfl
  · obtain ⟨v, d, n, rfl, hv, k⟩ := h
    refine ⟨_, (pss_one (ps_ret (pe_and (pe_callB call_isi (by rfl) T.isinstance (by decide +kernel) (pa_cons (pv 0) (pa_cons (pe_bltn (v := .ty "tuple") (u := .type "tuple") (by rfl) T.tuple (by decide +kernel) rfl) pa_nil))) (pe_one (pe_cmpR op_eq (pe_callB call_len_seq (by rfl) T.len PySem.boot_len (pa_cons (pv 0) pa_nil)) (pv 1) (nomark _)))))), ?_⟩
    refine ⟨_, rfl, _, _, _, _, _, rfl, .ty _, hv.ty, kit_ty (kb_tuple d), _, rfl, ?_⟩
    cases d with
    | tuple ds =>
      cases hv with
      | @tup a xs _ e h sm =>
        refine iteT ?_
        refine ⟨_, rfl, a, xs, rfl, Or.inr (SqT.of e), _, rfl, rfl, ?_⟩
        have := k H (Same.refl _)
        rw [show (decide (V.int (xs.length : Int) = V.int n)) = isTupND n (.tuple ds) by
          rw [h.len]
          exact decide_eq_decide.mpr ⟨V.int.inj, fun q => by rw [q]⟩]
        exact this
    | _ =>
      refine iteF ?_
      exact k _ (Same.refl _)
end
end My

namespace My
open PySem PySem.Spec PyProof.Rows L2
local macro_rules | `(tactic| walk_at "side") => `(tactic| first | (dsimp only; omega) | exact ⟨by omega, by omega⟩ | exact Or.inl ⟨by omega, by omega⟩ | exact Or.inr ⟨by omega, by omega⟩ | decide)
local macro_rules | `(tactic| walk_at "sq") => `(tactic| first | assumption | exact SqL.of (by assumption) | exact SqT.of (by assumption) | (refine L2.Same.seq (by assumption) ?_; walk_at "sq") | (refine L2.Same.seqT (by assumption) ?_; walk_at "sq") | exact Or.inl (by walk_at "sq") | exact Or.inr (by walk_at "sq"))
local macro_rules | `(tactic| walk_at "1") => `(tactic| first
  | refine ⟨_, rfl, iteT ?_⟩
  | refine ⟨_, rfl, iteF ?_⟩
  | refine ⟨_, rfl, ?_⟩
  | refine ⟨_, _, rfl, rfl, (by walk_at "side"), ?_⟩
  | refine ⟨_, _, rfl, rfl, ?_⟩
  | refine ⟨_, _, _, _, true, rfl, .ty _, .base (.int _), kit_ty (a := "int") (by decide +kernel), ?_⟩
  | refine ⟨_, _, _, _, false, rfl, .ty _, .base (.int _), kit_ty (a := "int") (by decide +kernel), ?_⟩
  | refine ⟨_, _, rfl, (by walk_at "sq"), ?_⟩
  | refine ⟨_, _, _, _, rfl, rfl, (by walk_at "sq"), (by first | rfl | assumption), ?_⟩
  | refine Or.inl ⟨_, _, _, _, rfl, rfl, (by walk_at "sq"), (by first | rfl | assumption), ?_⟩
  | refine Or.inr (Or.inl ⟨_, _, _, _, rfl, rfl, (by walk_at "sq"), (by first | rfl | assumption), ?_⟩)
  | refine ⟨_, _, rfl, Or.inl ⟨(by walk_at "sq"), ?_⟩⟩
  | refine ⟨rfl, ?_⟩
  | refine iteT ?_
  | refine iteF ?_
  | refine ⟨_, _, _, _, _, rfl, (by assumption), (by assumption), (by assumption), (by assumption), ?_⟩
  | refine Or.inl ⟨_, rfl, ?_⟩
  | refine Or.inr ⟨_, rfl, ?_⟩
  | refine ⟨_, _, rfl, (by walk_at "side"), ?_⟩
  | refine ⟨_, _, rfl, ?_⟩)
local macro_rules | `(tactic| walk_at "fld") => `(tactic| skip)
local macro_rules | `(tactic| walk_at "s") => `(tactic| repeat walk_at "1")
local macro_rules | `(tactic| walk_at "size") => `(tactic| first | exact Nat.le_of_ble_eq_true rfl | (simp only [List.length_map, List.length_append, List.length_cons, List.length_nil]; omega))
local macro_rules | `(tactic| walk_at "new") => `(tactic| (first | refine ⟨(by walk_at "size"), fun p hp => ?_⟩ | refine fun p hp => ?_); (generalize hq : upd _ p _ = H1); (obtain ⟨s, e⟩ := new_facts hp hq); clear hq)
/-! steps -/
def isNonD : PyData → Bool
  | .none => true
  | _ => false
def isStepD : PyData → Bool
  | .tuple [a, b] => isIntD a && isNumD b
  | _ => false
def isEndlD : PyData → Bool
  | .tuple [a, b] => isIntD a && isNonD b
  | _ => false
theorem isTupN2 {d : PyData} (h : isTupND 2 d = true) : ∃ a b, d = .tuple [a, b] := by
  cases d with
  | tuple ds =>
    have l : (ds.length : Int) = 2 := of_decide_eq_true h
    match ds, l with
    | [a, b], _ => exact ⟨a, b, rfl⟩
    | [], l => simp at l
    | [_], l => simp at l
    | _ :: _ :: _ :: r, l => simp only [List.length_cons] at l; omega
  | _ => cases h
theorem isTupN2_no {d : PyData} (h : isTupND 2 d = false) : isStepD d = false ∧ isEndlD d = false := by
  cases d with
  | tuple ds =>
    match ds with
    | [a, b] => exact absurd h (by simp [isTupND])
    | [] => exact ⟨rfl, rfl⟩
    | [_] => exact ⟨rfl, rfl⟩
    | _ :: _ :: _ :: _ => exact ⟨rfl, rfl⟩
  | _ => exact ⟨rfl, rfl⟩
theorem Dv.nonB {H : Hp} {v : V} {d : PyData} (h : Dv H v d) : decide (v = .non) = isNonD d := by
  cases h <;> rfl
section
variable {P : Program} {w : World} {K : PySem.W.Frag} {mg : Str → Option Value} {base : Heap}
abbrev s_is_step : Stmt := topS 42
theorem sc_is_step : FnScope ["step"] ["step"] (defScope s_is_step) := ⟨rfl, rfl, rfl, by decide +kernel, rfl, by decide +kernel, by decide +kernel⟩
theorem ok_is_step (D : Df K mg "_is_step" s_is_step ["step"]) (o_is_tuple_of : Own P w K mg base "is_tuple_of" 1 ["value", "many"] spTupOf) (o_is_integer : Own P w K mg base "is_integer" 1 ["value"] (spD isIntD)) (o_is_number : Own P w K mg base "is_number" 2 ["value"] (spD isNumD)) : Own P w K mg base "_is_step" 3 ["step"] (spD isStepD) := by
  refine D.own sc_is_step (fun vs H Q E h => ?_) (fun f cdv A outer s H vs Q E hr h => ?_)
  · obtain ⟨_, _, rfl, _⟩ := h
    rfl
  · obtain ⟨v, d, rfl, hv, k⟩ := h
    refine ⟨_, (pss_one (ps_ret (pe_and (pe_own o_is_tuple_of (hr.mono (by decide)) (pa_cons (pv 0) (pa_cons pe_int pa_nil))) (pe_and (pe_own o_is_integer (hr.mono (by decide)) (pa_cons (pe_ix ix_tup (pv 0) pe_int (fun _ _ => rfl)) pa_nil)) (pe_one (pe_own o_is_number (hr.mono (by decide)) (pa_cons (pe_ix ix_tup (pv 0) pe_int (fun _ _ => rfl)) pa_nil))))))), ?_⟩
    refine ⟨_, rfl, v, d, 2, rfl, hv, fun H1 s1 => ⟨_, rfl, ?_⟩⟩
    cases ht : isTupND 2 d with
    | false =>
      refine iteF ?_
      rw [← (isTupN2_no ht).1]
      exact k _ s1
    | true =>
      refine iteT ?_
      obtain ⟨a, b, rfl⟩ := isTupN2 ht
      have hv1 := hv.same s1
      cases hv1 with
      | @tup p xs _ ep hx sm =>
        obtain ⟨x1, ys, rfl, d1, hx⟩ := hx.inv
        obtain ⟨x2, ys, rfl, d2, hx⟩ := hx.inv
        obtain rfl := hx.inv0
        refine ⟨_, rfl, _, _, _, _, rfl, rfl, SqT.of ep, rfl, ?_⟩
        refine ⟨_, a, rfl, d1, fun H2 s2 => ⟨_, rfl, ?_⟩⟩
        cases h1 : isIntD a with
        | false =>
          refine iteF ?_
          have := k _ (s1.trans s2)
          rw [show isStepD (.tuple [a, b]) = (isIntD a && isNumD b) from rfl, h1] at this
          exact this
        | true =>
          refine iteT ?_
          refine ⟨_, rfl, _, _, _, _, rfl, rfl, SqT.of (s2 _ _ ep), rfl, ?_⟩
          refine ⟨_, b, rfl, d2.same s2, fun H3 s3 => ?_⟩
          have := k _ (s1.trans (s2.trans s3))
          rw [show isStepD (.tuple [a, b]) = (isIntD a && isNumD b) from rfl, h1] at this
          exact this
abbrev s_is_endless_step : Stmt := topS 43
theorem sc_is_endless_step : FnScope ["step"] ["step"] (defScope s_is_endless_step) := ⟨rfl, rfl, rfl, by decide +kernel, rfl, by decide +kernel, by decide +kernel⟩
theorem ok_is_endless_step (D : Df K mg "_is_endless_step" s_is_endless_step ["step"]) (o_is_tuple_of : Own P w K mg base "is_tuple_of" 1 ["value", "many"] spTupOf) (o_is_integer : Own P w K mg base "is_integer" 1 ["value"] (spD isIntD)) : Own P w K mg base "_is_endless_step" 3 ["step"] (spD isEndlD) := by
  refine D.own sc_is_endless_step (fun vs H Q E h => ?_) (fun f cdv A outer s H vs Q E hr h => ?_)
  · obtain ⟨_, _, rfl, _⟩ := h
    rfl
  · obtain ⟨v, d, rfl, hv, k⟩ := h
    refine ⟨_, (pss_one (ps_ret (pe_and (pe_own o_is_tuple_of (hr.mono (by decide)) (pa_cons (pv 0) (pa_cons pe_int pa_nil))) (pe_and (pe_own o_is_integer (hr.mono (by decide)) (pa_cons (pe_ix ix_tup (pv 0) pe_int (fun _ _ => rfl)) pa_nil)) (pe_one (pe_cmpR op_isN (pe_ix ix_tup (pv 0) pe_int (fun _ _ => rfl)) pe_non (nomark _))))))), ?_⟩
    refine ⟨_, rfl, v, d, 2, rfl, hv, fun H1 s1 => ⟨_, rfl, ?_⟩⟩
    cases ht : isTupND 2 d with
    | false =>
      refine iteF ?_
      rw [← (isTupN2_no ht).2]
      exact k _ s1
    | true =>
      refine iteT ?_
      obtain ⟨a, b, rfl⟩ := isTupN2 ht
      have hv1 := hv.same s1
      cases hv1 with
      | @tup p xs _ ep hx sm =>
        obtain ⟨x1, ys, rfl, d1, hx⟩ := hx.inv
        obtain ⟨x2, ys, rfl, d2, hx⟩ := hx.inv
        obtain rfl := hx.inv0
        refine ⟨_, rfl, _, _, _, _, rfl, rfl, SqT.of ep, rfl, ?_⟩
        refine ⟨_, a, rfl, d1, fun H2 s2 => ⟨_, rfl, ?_⟩⟩
        cases h1 : isIntD a with
        | false =>
          refine iteF ?_
          have := k _ (s1.trans s2)
          rw [show isEndlD (.tuple [a, b]) = (isIntD a && isNonD b) from rfl, h1] at this
          exact this
        | true =>
          refine iteT ?_
          refine ⟨_, rfl, _, _, _, _, rfl, rfl, SqT.of (s2 _ _ ep), rfl, ?_⟩
          refine ⟨rfl, ?_⟩
          rw [d2.nonB]
          have := k _ (s1.trans s2)
          rw [show isEndlD (.tuple [a, b]) = (isIntD a && isNonD b) from rfl, h1] at this
          exact this
end
/-! ### steps as data -/
def cD : Option Int → PyData
  | none => .none
  | some i => .int i
/-- a time (or nothing) and a count (or endless) -/
def prD (x : Option Int × Option Int) : PyData := .tuple [cD x.1, cD x.2]
abbrev Stp := Int × Option Int
def stD (x : Stp) : PyData := .tuple [.int x.1, cD x.2]
def prO (x : Stp) : Option Int × Option Int := (some x.1, x.2)
def cV : Option Int → V
  | none => .non
  | some i => .int i
theorem dv_c {H : Hp} {v : V} {c : Option Int} (h : Dv H v (cD c)) : v = cV c := by
  cases c with
  | none => cases h; rfl
  | some i => cases h; rfl
theorem cV_dv {H : Hp} (c : Option Int) : Dv H (cV c) (cD c) := by
  cases c with
  | none => exact .non
  | some i => exact .int i
theorem dv_pr {H : Hp} {v : V} {x : Option Int × Option Int} (h : Dv H v (prD x)) : ∃ p, v = .ref p ∧ H p = some (.tup [cV x.1, cV x.2]) := by
  cases h with
  | @tup p xs _ ep hx sm =>
    obtain ⟨x1, ys, rfl, d1, hx⟩ := hx.inv
    obtain ⟨x2, ys, rfl, d2, hx⟩ := hx.inv
    obtain rfl := hx.inv0
    rw [dv_c d1, dv_c d2] at ep
    exact ⟨p, rfl, ep⟩
theorem st_pr (x : Stp) : stD x = prD (prO x) := rfl
theorem pr_dv {H : Hp} {p : Addr} {x : Option Int × Option Int} (h : H p = some (.tup [cV x.1, cV x.2])) : Dv H (.ref p) (prD x) := .tup h (.cons (cV_dv _) (.cons (cV_dv _) .nil)) (by show 2 ≤ 2000; decide)
/-- whether times and counts rise from one on -/
def upC : Option Int → Option Int → Bool
  | none, _ => false
  | some _, none => true
  | some c, some c' => decide (c < c')
def upT : Option Int → Int → Bool
  | none, _ => true
  | some t, t' => decide (t < t')
def riseF : Option Int × Option Int → List Stp → Bool
  | _, [] => true
  | x, y :: r => upC x.2 y.2 && (upT x.1 y.1 && riseF (prO y) r)
def spRise : Sp := fun vs H Q _ => ∃ (a : Addr) (x : V) (xs : List V) (d : Option Int × Option Int) (ds : List Stp), vs = [.ref a] ∧ H a = some (.lst (x :: xs)) ∧ Dv H x (prD d) ∧ DvAll H xs (ds.map stD) ∧ ds.length ≤ 2000 ∧ ∀ H', Same H H' → Q (.bl (riseF d ds)) H'
theorem cV_non (c : Option Int) : decide (cV c = .non) = c.isNone := by cases c <;> rfl
section
variable {P : Program} {w : World} {K : PySem.W.Frag} {mg : Str → Option Value} {base : Heap}
abbrev s_rise : Stmt := topS 44
theorem sc_rise : FnScope ["steps", "time", "told", "later_time", "later_told"] ["steps"] (defScope s_rise) := ⟨rfl, rfl, rfl, by decide +kernel, rfl, by decide +kernel, by decide +kernel⟩
set_option maxHeartbeats 8000000 in
theorem ok_rise (D : Df K mg "_rise" s_rise ["steps"]) (T : Txt mg) : Own P w K mg base "_rise" 1 ["steps"] spRise := by
  refine D.own sc_rise (fun vs H Q E h => ?_) (fun f cdv A outer s H vs Q E hr h => ?_)
  · obtain ⟨_, _, _, _, _, rfl, _⟩ := h
    rfl
  · obtain ⟨a, x0, xs, d0, ds, rfl, ha, h0, hds, hlen, k⟩ := h
    refine ⟨_, (pss_cons (ps_for PassesOwn.never rfl (pi_zip (by rfl) T.zip (pa_cons (pv 0) (pa_cons (pe_slice sl_list (pv 0) (po_some pe_int) po_none) pa_nil))) (pg_tup (by rfl) (pgs_cons (pg_tup (by rfl) (pgs_cons (pg_name (i := 1) sc_rise.nd rfl (Or.inl rfl)) (pgs_cons (pg_name (i := 2) sc_rise.nd rfl (Or.inl rfl)) pgs_nil))) (pgs_cons (pg_tup (by rfl) (pgs_cons (pg_name (i := 3) sc_rise.nd rfl (Or.inl rfl)) (pgs_cons (pg_name (i := 4) sc_rise.nd rfl (Or.inl rfl)) pgs_nil))) pgs_nil)))
    (pss_cons (ps_if (PW.pt (pw_or (pt_cmpR op_isN (pv 2) pe_non (nomark _)) (pw_or1 (PW.pt (pw_and (pt_cmpR op_notN (pv 4) pe_non (nomark _)) (pw_and1 (pt_cmpR op_le (pv 4) (pv 2) (nomark _))))))))
        (pss_one (ps_ret pe_bl))
        pss_nil)
      (pss_one (ps_if (PW.pt (pw_and (pt_cmpR op_notN (pv 1) pe_non (nomark _)) (pw_and1 (pt_cmpR op_le (pv 3) (pv 1) (nomark _)))))
        (pss_one (ps_ret pe_bl))
        pss_nil))))
  (pss_one (ps_ret pe_bl))), ?_⟩
    have hl := hds.len
    rw [List.length_map] at hl
    refine ⟨_, rfl, _, rfl, _, rfl, a, _, rfl, SqL.of ha, ?_⟩
    walk_at "new"
    rename_i p np H1 s1 e1
    have ecut : cutV (x0 :: xs) (some (1 : Int)) none = xs := by
      unfold cutV
      rw [show (1 : Int) = ((1 : Nat) : Int) from rfl, HT.sIx_nat, HT.sIx_none, Nat.min_eq_left (by rw [List.length_cons]; omega)]
      exact List.take_of_length_le (by rw [List.length_drop]; omega)
    rw [ecut] at e1
    refine ⟨a, p, _, _, rfl, SqL.of (s1 _ _ ha), SqL.of e1, for_it (walk_zip (xs := x0 :: xs) (ys := xs) (n := xs.length) (by simp only [List.length_cons]; omega)) (fun i σ H' => ∃ (d : Option Int × Option Int) (x : V) (y1 y2 y3 y4 : Option V), σ = [some (.ref a), y1, y2, y3, y4] ∧ Same H1 H' ∧ (x0 :: xs)[i]? = some x ∧ Dv H' x (prD d) ∧ riseF d (ds.drop i) = riseF d0 ds)
      ⟨d0, x0, none, none, none, none, rfl, Same.refl _, rfl, h0.same s1, rfl⟩ (fun i σ H' _ ⟨_, _, _, _, _, _, _, s', _⟩ => ⟨SqL.of (s' _ _ (s1 _ _ ha)), SqL.of (s' _ _ e1)⟩) ?_ ?_⟩
    · rintro i v σ H' H2 hi ⟨d, x, y1, y2, y3, y4, rfl, s', hx, hd, er⟩ ⟨Tp, u, v', rfl, nT, rfl, hu, hv⟩
      have hxu : u = x := Option.some.inj (hu.symm.trans hx)
      subst hxu
      obtain ⟨dv, ed, hdv0⟩ := (hds.same (s1.trans s')).get hv
      rw [List.getElem?_map] at ed
      obtain ⟨y, ey, rfl⟩ := Option.map_eq_some_iff.mp ed
      have s2 : Same H' (upd H' Tp (.tup [u, v'])) := same_upd nT
      obtain ⟨q1, rfl, g1⟩ := dv_pr (hd.same s2)
      obtain ⟨q2, rfl, g2⟩ := dv_pr (x := prO y) (hdv0.same s2)
      have eT : upd H' Tp (.tup [.ref q1, .ref q2]) Tp = some (.tup [.ref q1, .ref q2]) := upd_same
      have hdrop : ds.drop i = y :: ds.drop (i + 1) := by
        obtain ⟨q, rfl⟩ := List.getElem?_eq_some_iff.mp ey
        exact List.drop_eq_getElem_cons q
      rw [hdrop] at er
      generalize upd H' Tp (.tup [.ref q1, .ref q2]) = H3 at s2 g1 g2 eT ⊢
      have s3 : Same H1 H3 := s'.trans s2
      obtain ⟨t, c⟩ := d
      obtain ⟨t2, c2⟩ := y
      have nxt : ∀ (y1 y2 y3 y4 : Option V), riseF (some t2, c2) (ds.drop (i + 1)) = riseF d0 ds → ∃ (d : Option Int × Option Int) (x : V) (z1 z2 z3 z4 : Option V), [some (V.ref a), y1, y2, y3, y4] = [some (V.ref a), z1, z2, z3, z4] ∧ Same H1 H3 ∧ (x0 :: xs)[i + 1]? = some x ∧ Dv H3 x (prD d) ∧ riseF d (ds.drop (i + 1)) = riseF d0 ds := fun y1 y2 y3 y4 q =>
        ⟨(some t2, c2), .ref q2, y1, y2, y3, y4, rfl, s3, hv, pr_dv g2, q⟩
      have no : false = riseF d0 ds → Q (.bl false) H3 := fun q => by
        have := k _ (s1.trans s3)
        rw [← q] at this
        exact this
      refine ⟨Tp, _, rfl, SqT.of eT, rfl, _, _, rfl, ⟨q1, _, rfl, SqT.of g1, rfl, _, _, rfl, _, _, rfl, rfl, ?_⟩⟩
      refine ⟨_, _, rfl, ⟨q2, _, rfl, SqT.of g2, rfl, _, _, rfl, _, _, rfl, rfl, rfl, ?_⟩⟩
      cases c with
      | none =>
        walk_at "s"
        exact no er
      | some c =>
        have last : upC (some c) c2 = true → (upT t t2 && riseF (some t2, c2) (ds.drop (i + 1))) = riseF d0 ds := fun q => by
          rw [← er]
          show _ = (upC (some c) c2 && (upT t t2 && riseF (some t2, c2) (ds.drop (i + 1))))
          rw [q]
          rfl
        cases c2 with
        | none =>
          walk_at "s"
          cases t with
          | none =>
            walk_at "s"
            exact nxt _ _ _ _ (last rfl)
          | some t =>
            walk_at "s"
            have l := last rfl
            refine ite2 (fun c => ?_) (fun c => ?_)
            · have c' : t2 ≤ t := of_decide_eq_true c
              refine no ?_
              rw [← l, show upT (some t) t2 = false from decide_eq_false (by omega)]
              rfl
            · have c' : ¬ t2 ≤ t := fun q => c (decide_eq_true q)
              refine nxt _ _ _ _ ?_
              rw [← l, show upT (some t) t2 = true from decide_eq_true (by omega)]
              rfl
        | some c2 =>
          walk_at "s"
          refine ite2 (fun e => ?_) (fun e => ?_)
          · have e' : c2 ≤ c := of_decide_eq_true e
            refine no ?_
            rw [← er]
            show false = (decide (c < c2) && _)
            rw [decide_eq_false (by omega)]
            rfl
          · have e' : ¬ c2 ≤ c := fun q => e (decide_eq_true q)
            have l := last (decide_eq_true (by omega))
            walk_at "s"
            cases t with
            | none =>
              walk_at "s"
              exact nxt _ _ _ _ l
            | some t =>
              walk_at "s"
              refine ite2 (fun c => ?_) (fun c => ?_)
              · have c' : t2 ≤ t := of_decide_eq_true c
                refine no ?_
                rw [← l, show upT (some t) t2 = false from decide_eq_false (by omega)]
                rfl
              · have c' : ¬ t2 ≤ t := fun q => c (decide_eq_true q)
                refine nxt _ _ _ _ ?_
                rw [← l, show upT (some t) t2 = true from decide_eq_true (by omega)]
                rfl
    · rintro σ H' ⟨d, x, y1, y2, y3, y4, rfl, s', hx, hd, er⟩
      rw [List.drop_eq_nil_of_le (by omega)] at er
      have er' : true = riseF d0 ds := er
      rw [← er'] at k
      exact k _ (s1.trans s')
end
end My

namespace My
open PySem PySem.Spec PyProof.Rows L2
local macro_rules | `(tactic| walk_at "side") => `(tactic| first | (dsimp only; omega) | exact ⟨by omega, by omega⟩ | exact Or.inl ⟨by omega, by omega⟩ | exact Or.inr ⟨by omega, by omega⟩ | decide)
local macro_rules | `(tactic| walk_at "sq") => `(tactic| first | assumption | exact SqL.of (by assumption) | exact SqT.of (by assumption) | (refine L2.Same.seq (by assumption) ?_; walk_at "sq") | (refine L2.Same.seqT (by assumption) ?_; walk_at "sq") | exact Or.inl (by walk_at "sq") | exact Or.inr (by walk_at "sq"))
local macro_rules | `(tactic| walk_at "1") => `(tactic| first
  | refine ⟨_, rfl, iteT ?_⟩
  | refine ⟨_, rfl, iteF ?_⟩
  | refine ⟨_, rfl, ?_⟩
  | refine ⟨_, _, rfl, rfl, (by walk_at "side"), ?_⟩
  | refine ⟨_, _, rfl, rfl, ?_⟩
  | refine ⟨_, _, _, _, true, rfl, .ty _, .base (.int _), kit_ty (a := "int") (by decide +kernel), ?_⟩
  | refine ⟨_, _, _, _, false, rfl, .ty _, .base (.int _), kit_ty (a := "int") (by decide +kernel), ?_⟩
  | refine ⟨_, _, rfl, (by walk_at "sq"), ?_⟩
  | refine ⟨_, _, _, _, rfl, rfl, (by walk_at "sq"), (by first | rfl | assumption), ?_⟩
  | refine Or.inl ⟨_, _, _, _, rfl, rfl, (by walk_at "sq"), (by first | rfl | assumption), ?_⟩
  | refine Or.inr (Or.inl ⟨_, _, _, _, rfl, rfl, (by walk_at "sq"), (by first | rfl | assumption), ?_⟩)
  | refine ⟨_, _, rfl, Or.inl ⟨(by walk_at "sq"), ?_⟩⟩
  | refine ⟨rfl, ?_⟩
  | refine iteT ?_
  | refine iteF ?_
  | refine ⟨_, _, _, _, _, rfl, (by assumption), (by assumption), (by assumption), (by assumption), ?_⟩
  | refine Or.inl ⟨_, rfl, ?_⟩
  | refine Or.inr ⟨_, rfl, ?_⟩
  | refine ⟨_, _, rfl, (by walk_at "side"), ?_⟩
  | refine ⟨_, _, rfl, ?_⟩)
local macro_rules | `(tactic| walk_at "fld") => `(tactic| skip)
local macro_rules | `(tactic| walk_at "s") => `(tactic| repeat walk_at "1")
local macro_rules | `(tactic| walk_at "size") => `(tactic| first | exact Nat.le_of_ble_eq_true rfl | (simp only [List.length_map, List.length_append, List.length_cons, List.length_nil]; omega))
local macro_rules | `(tactic| walk_at "new") => `(tactic| (first | refine ⟨(by walk_at "size"), fun p hp => ?_⟩ | refine fun p hp => ?_); (generalize hq : upd _ p _ = H1); (obtain ⟨s, e⟩ := new_facts hp hq); clear hq)
/-! what is wrong with arguments -/
def cO : PyData → Option Int
  | .int i => some i
  | _ => none
def intD : PyData → Int
  | .int i => i
  | _ => 0
def stO : PyData → Stp
  | .tuple [a, b] => (intD a, cO b)
  | _ => (0, none)
def wU : Str := "under"
def wF : Str := "first"
def wA : Str := "again"
def wT : Str := "turn"
def wM : Str := "more"
def isFD (d : PyData) : Bool := isStepD d || isEndlD d
/-- with a last step, steps that come again, turn, more -/
def wordR (last : Option Int × Option Int) (as : List Stp) (t m : PyData) : Option Str :=
  match last.2 with
  | none => if 0 < as.length then some wA else if (isNumD t && decide (intD t ≤ 0)) = true then (if (isNumD m && decide (intD m = 0)) = true then none else some wM) else some wT
  | some _ => match as.head?, as.getLast? with
    | some x, some y => if riseF last as = true then (if (isNumD t && decide (y.1 - x.1 < intD t)) = true then (if (isNumD m && decide ((y.2.getD 0) - (x.2.getD 0) < intD m)) = true then none else some wM) else some wT) else some wA
    | _, _ => some wA
def wordA (u : PyData) (fs : List Stp) (a t m : PyData) : Option Str :=
  if (isSeqD a && (itemsD a).all isStepD) = true then wordR ((fs.getLast?.map prO).getD (none, cO u)) ((itemsD a).map stO) t m else some wA
/-- the first wrong argument -/
def wordT (u f a t m : PyData) : Option Str :=
  if (isNonD u || isNumD u) = true then
    if (isSeqD f && (itemsD f).all isFD) = true then
      if riseF (none, cO u) ((itemsD f).map stO) = true then wordA u ((itemsD f).map stO) a t m else some wF
    else some wF
  else some wU
def wv : Option Str → V
  | none => .non
  | some x => .str x
theorem int_eq {d : PyData} (h : isIntD d = true) : d = .int (intD d) := by
  cases d <;> first | rfl | cases h
theorem num_eq {d : PyData} (h : isNumD d = true) : d = .int (intD d) ∧ 0 ≤ intD d := by
  cases d <;> first | exact ⟨rfl, of_decide_eq_true h⟩ | cases h
theorem non_eq {d : PyData} (h : isNonD d = true) : d = .none := by
  cases d <;> first | rfl | cases h
theorem step_eq {d : PyData} (h : isStepD d = true) : d = stD (stO d) ∧ ∃ c, (stO d).2 = some c ∧ 0 ≤ c := by
  unfold isStepD at h
  split at h
  · obtain ⟨h1, h2⟩ := Bool.and_eq_true_iff.mp h
    obtain ⟨e2, n2⟩ := num_eq h2
    rename_i a b
    refine ⟨?_, intD b, ?_, n2⟩
    · show PyData.tuple [a, b] = .tuple [.int (intD a), cD (cO b)]
      rw [← int_eq h1]
      rw [e2]
      rfl
    · show cO b = _
      rw [e2]
      rfl
  · cases h
theorem endl_eq {d : PyData} (h : isEndlD d = true) : d = stD (stO d) := by
  unfold isEndlD at h
  split at h
  · obtain ⟨h1, h2⟩ := Bool.and_eq_true_iff.mp h
    rename_i a b
    show PyData.tuple [a, b] = .tuple [.int (intD a), cD (cO b)]
    rw [← int_eq h1, non_eq h2]
    rfl
  · cases h
theorem first_eq {d : PyData} (h : isFD d = true) : d = stD (stO d) := (Bool.or_eq_true_iff.mp h).elim (fun h => (step_eq h).1) endl_eq
theorem map_eqs {f : PyData → Bool} (g : ∀ d, f d = true → d = stD (stO d)) : ∀ {ds : List PyData}, ds.all f = true → ds = (ds.map stO).map stD
  | [], _ => rfl
  | d :: ds, h => by
    rw [List.all_cons, Bool.and_eq_true] at h
    rw [List.map_cons, List.map_cons, ← g d h.1, ← map_eqs g h.2]
theorem atI_neg1 {α : Type} {xs : List α} {v : α} (h : xs.getLast? = some v) : atI xs (-1) = some v := by
  obtain ⟨ys, rfl⟩ := List.getLast?_eq_some_iff.mp h
  exact atI_last ys v
theorem DvAll.last {H : Hp} : ∀ {ds : List PyData} {xs : List V} {d : PyData}, DvAll H xs (ds ++ [d]) → ∃ x, xs.getLast? = some x ∧ Dv H x d
  | [], xs, d, h => by
    obtain ⟨x, ys, rfl, h1, h2⟩ := h.inv
    rw [h2.inv0]
    exact ⟨x, rfl, h1⟩
  | e :: ds, xs, d, h => by
    obtain ⟨x, ys, rfl, h1, h2⟩ := DvAll.inv (ds := ds ++ [d]) h
    obtain ⟨y, e1, h3⟩ := DvAll.last h2
    refine ⟨y, ?_, h3⟩
    rw [List.getLast?_cons, e1]
    rfl
/-- xs[i][n] of a list or a tuple of pairs -/
theorem rd_pair {K : PySem.W.Frag} {H : Hp} {A q : Addr} {xs : List V} {i n : Int} {a b v : V} {σ : L2.St} {j : Nat} {ti : TE} {Q : VK} (hS : SqS K H A xs) (hv : σ[j]? = some (some (.ref A))) (ht : ∀ R : VK, R (.int i) H → ti σ H R) (hi : atI xs i = some (.ref q))
    (hq : H q = some (.tup [a, b])) (hn : atI [a, b] n = some v) (h : Q v H) : tOp (rIxT K) (fun σ H Q => tOp (rIxL K) (tVar j) ti σ H Q ∨ tOp (rIxT K) (tVar j) ti σ H Q) (tC (.int n)) σ H Q := by
  have fin : ∃ (a' : Addr) (xs : List V) (i : Int) (v : V), V.ref q = .ref a' ∧ V.int n = .int i ∧ SqT K H a' xs ∧ atI xs i = some v ∧ Q v H := ⟨q, _, n, v, rfl, rfl, SqT.of hq, hn, h⟩
  rcases hS with hS | hS
  · exact Or.inl ⟨_, hv, ht _ ⟨A, xs, i, _, rfl, rfl, hS, hi, fin⟩⟩
  · exact Or.inr ⟨_, hv, ht _ ⟨A, xs, i, _, rfl, rfl, hS, hi, fin⟩⟩
theorem DvAll.hd {H : Hp} {ds : List PyData} {xs : List V} {d : PyData} (h : DvAll H xs (d :: ds)) : ∃ x, atI xs 0 = some x ∧ Dv H x d := by
  obtain ⟨x, ys, rfl, h1, _⟩ := h.inv
  exact ⟨x, atI_nat (j := 0) rfl, h1⟩
def spWrongT : Sp := fun vs H Q _ => ∃ (v0 v1 v2 v3 v4 : V) (d0 d1 d2 d3 d4 : PyData), vs = [v0, v1, v2, v3, v4] ∧ Dv H v0 d0 ∧ Dv H v1 d1 ∧ Dv H v2 d2 ∧ Dv H v3 d3 ∧ Dv H v4 d4 ∧ ∀ H', Same H H' → Q (wv (wordT d0 d1 d2 d3 d4)) H'
theorem small2000 {n : Nat} (h : n ≤ 4000) : n < sizeLine := Nat.lt_of_le_of_lt h (by decide)
section
variable {P : Program} {w : World} {K : PySem.W.Frag} {mg : Str → Option Value} {base : Heap}
abbrev s_wrong_argument : Stmt := topS 40
theorem sc_wrong_argument : FnScope ["under", "first", "again", "turn", "more", "last", "step"] ["under", "first", "again", "turn", "more"] (defScope s_wrong_argument) := ⟨rfl, rfl, rfl, by decide +kernel, rfl, by decide +kernel, by decide +kernel⟩
set_option maxHeartbeats 16000000 in
theorem ok_wrong (D : DfA K mg "wrong_argument_counts" "_wrong_argument" s_wrong_argument ["under", "first", "again", "turn", "more"]) (T : Txt mg) (o_is_number : Own P w K mg base "is_number" 2 ["value"] (spD isNumD)) (o_is_sequence : Own P w K mg base "is_sequence" 1 ["value"] (spD isSeqD))
    (o_is_step : Own P w K mg base "_is_step" 3 ["step"] (spD isStepD)) (o_is_endless_step : Own P w K mg base "_is_endless_step" 3 ["step"] (spD isEndlD)) (o_rise : Own P w K mg base "_rise" 1 ["steps"] spRise) : Own P w K mg base "wrong_argument_counts" 4 ["under", "first", "again", "turn", "more"] spWrongT := by
  refine D.own sc_wrong_argument (fun vs H Q E h => ?_) (fun f cdv A outer s H vs Q E hr h => ?_)
  · obtain ⟨_, _, _, _, _, _, _, _, _, _, rfl, _⟩ := h
    rfl
  · obtain ⟨v0, v1, v2, v3, v4, d0, d1, d2, d3, d4, rfl, h0, h1, h2, h3, h4, k⟩ := h
    refine ⟨_, (pss_cons (ps_if (PW.pt (pw_and (pt_cmpR op_notN (pv 0) pe_non (nomark _)) (pw_and1 (pt_not (pt_val (pe_own o_is_number (hr.mono (by decide)) (pa_cons (pv 0) pa_nil)))))))
    (pss_one (ps_ret pe_str))
    pss_nil)
  (pss_cons (ps_if (PW.pt (pw_or (pt_not (pt_val (pe_own o_is_sequence (hr.mono (by decide)) (pa_cons (pv 1) pa_nil)))) (pw_or1 (pt_not (pt_val (pe_callB (cr_all rfl) (by rfl) T.all (by decide +kernel) (pa_cons (pe_lc (own := [("step", 6)]) (g := gName 6) (tt := tYes) rfl sc_wrong_argument.nd (pi_alt (pi_list (pv 1)) (pi_tup (pv 1))) (blkOk_by (own := [("step", 6)]) (N := ["under", "first", "again", "turn", "more", "last", "step"]) (sc := defScope s_wrong_argument) (by decide +kernel)) (fun _ _ _ _ _ => (pg_name (i := 6) sc_wrong_argument.nd rfl (Or.inl rfl))) (fun _ _ _ _ _ => pts_nil) (fun _ _ _ _ _ => (pe_or (pe_own o_is_step (hr.mono (by decide)) (pa_cons (pv 6) pa_nil)) (pe_one (pe_own o_is_endless_step (hr.mono (by decide)) (pa_cons (pv 6) pa_nil)))))) pa_nil)))))))
    (pss_one (ps_ret pe_str))
    pss_nil)
  (pss_cons (ps_if (pt_not (pt_val (pe_own o_rise (hr.mono (by decide)) (pa_cons (pe_lst (pa_cons (pe_tup (pa_cons pe_non (pa_cons (pv 0) pa_nil))) (StX.pa_star (pv 1) pa_nil))) pa_nil))))
    (pss_one (ps_ret pe_str))
    pss_nil)
  (pss_cons (ps_if (PW.pt (pw_or (pt_not (pt_val (pe_own o_is_sequence (hr.mono (by decide)) (pa_cons (pv 2) pa_nil)))) (pw_or1 (pt_not (pt_val (pe_callB (cr_all rfl) (by rfl) T.all (by decide +kernel) (pa_cons (pe_lc (own := [("step", 6)]) (g := gName 6) (tt := tYes) rfl sc_wrong_argument.nd (pi_alt (pi_list (pv 2)) (pi_tup (pv 2))) (blkOk_by (own := [("step", 6)]) (N := ["under", "first", "again", "turn", "more", "last", "step"]) (sc := defScope s_wrong_argument) (by decide +kernel)) (fun _ _ _ _ _ => (pg_name (i := 6) sc_wrong_argument.nd rfl (Or.inl rfl))) (fun _ _ _ _ _ => pts_nil) (fun _ _ _ _ _ => (pe_own o_is_step (hr.mono (by decide)) (pa_cons (pv 6) pa_nil)))) pa_nil)))))))
    (pss_one (ps_ret pe_str))
    pss_nil)
  (C8.pss_cut (ps_set (i := 5) sc_wrong_argument.nd rfl (Or.inl rfl) (pe_ifExp (pt_cmpR op_gt (pe_callB call_len_seq (by rfl) T.len PySem.boot_len (pa_cons (pv 1) pa_nil)) pe_int (nomark _)) (pe_alt (pe_ix ix_list (pv 1) (pe_un un_neg pe_int) (fun _ _ => rfl)) (pe_ix ix_tup (pv 1) (pe_un un_neg pe_int) (fun _ _ => rfl))) (pe_tup (pa_cons pe_non (pa_cons (pv 0) pa_nil)))))
  (pss_cons (ps_if (pt_cmpR op_isN (pe_ix ix_tup (pv 5) pe_int (fun _ _ => rfl)) pe_non (nomark _))
    (pss_cons (ps_if (pt_cmpR op_gt (pe_callB call_len_seq (by rfl) T.len PySem.boot_len (pa_cons (pv 2) pa_nil)) pe_int (nomark _))
        (pss_one (ps_ret pe_str))
        pss_nil)
      (pss_cons (ps_if (PW.pt (pw_or (pt_not (pt_val (pe_own o_is_number (hr.mono (by decide)) (pa_cons (pv 3) pa_nil)))) (pw_or1 (pt_cmpR op_gt (pv 3) pe_int (nomark _)))))
        (pss_one (ps_ret pe_str))
        pss_nil)
      (pss_one (ps_ret (pe_ifExp (PW.pt (pw_and (pt_val (pe_own o_is_number (hr.mono (by decide)) (pa_cons (pv 4) pa_nil))) (pw_and1 (pt_cmpR op_eq (pv 4) pe_int (nomark _))))) pe_non pe_str)))))
    pss_nil)
  (pss_cons (ps_if (PW.pt (pw_or (pt_cmpR op_eq (pe_callB call_len_seq (by rfl) T.len PySem.boot_len (pa_cons (pv 2) pa_nil)) pe_int (nomark _)) (pw_or1 (pt_not (pt_val (pe_own o_rise (hr.mono (by decide)) (pa_cons (pe_lst (pa_cons (pv 5) (StX.pa_star (pv 2) pa_nil))) pa_nil)))))))
    (pss_one (ps_ret pe_str))
    pss_nil)
  (pss_cons (ps_if (PW.pt (pw_or (pt_not (pt_val (pe_own o_is_number (hr.mono (by decide)) (pa_cons (pv 3) pa_nil)))) (pw_or1 (pt_cmpR op_le (pv 3) (pe_op op_sub (pe_ix ix_tup (pe_alt (pe_ix ix_list (pv 2) (pe_un un_neg pe_int) (fun _ _ => rfl)) (pe_ix ix_tup (pv 2) (pe_un un_neg pe_int) (fun _ _ => rfl))) pe_int (fun _ _ => rfl)) (pe_ix ix_tup (pe_alt (pe_ix ix_list (pv 2) pe_int (fun _ _ => rfl)) (pe_ix ix_tup (pv 2) pe_int (fun _ _ => rfl))) pe_int (fun _ _ => rfl))) (nomark _)))))
    (pss_one (ps_ret pe_str))
    pss_nil)
  (pss_one (ps_ret (pe_ifExp (PW.pt (pw_and (pt_val (pe_own o_is_number (hr.mono (by decide)) (pa_cons (pv 4) pa_nil))) (pw_and1 (pt_cmpR op_gt (pv 4) (pe_op op_sub (pe_ix ix_tup (pe_alt (pe_ix ix_list (pv 2) (pe_un un_neg pe_int) (fun _ _ => rfl)) (pe_ix ix_tup (pv 2) (pe_un un_neg pe_int) (fun _ _ => rfl))) pe_int (fun _ _ => rfl)) (pe_ix ix_tup (pe_alt (pe_ix ix_list (pv 2) pe_int (fun _ _ => rfl)) (pe_ix ix_tup (pv 2) pe_int (fun _ _ => rfl))) pe_int (fun _ _ => rfl))) (nomark _))))) pe_non pe_str))))))))))), ?_⟩
    have k0 : ∀ H' wd, Same H H' → wd = wordT d0 d1 d2 d3 d4 → Q (wv wd) H' := fun H' wd s e => by
      rw [e]
      exact k _ s
    clear k
    suffices aft : (isNonD d0 || isNumD d0) = true → ∀ H1, Same H H1 → _ by
      refine ⟨_, rfl, rfl, _, rfl, ?_⟩
      rw [h0.nonB]
      cases hn : isNonD d0 with
      | true =>
        refine iteF ?_
        refine iteF ?_
        exact aft (by rw [hn]; rfl) H (Same.refl _)
      | false =>
        refine iteT ?_
        refine ⟨_, rfl, v0, d0, rfl, h0, fun H1 s1 => ⟨_, rfl, ?_⟩⟩
        cases hm : isNumD d0 with
        | false =>
          refine iteT ?_
          refine k0 _ (some wU) s1 ?_
          unfold wordT
          rw [if_neg (by rw [hn, hm]; decide)]
        | true =>
          refine iteF ?_
          exact aft (by rw [hn, hm]; rfl) H1 s1
    intro hU H1 s1
    have k1 : ∀ H' wd, Same H1 H' → wd = (if (isSeqD d1 && (itemsD d1).all isFD) = true then
      if riseF (none, cO d0) ((itemsD d1).map stO) = true then wordA d0 ((itemsD d1).map stO) d2 d3 d4 else some wF
    else some wF) → Q (wv wd) H' := fun H' wd s' e => k0 H' wd (s1.trans s') (by
      rw [e]
      unfold wordT
      rw [if_pos hU])
    have h0 := h0.same s1
    have h1 := h1.same s1
    have h2 := h2.same s1
    have h3 := h3.same s1
    have h4 := h4.same s1
    clear k0 s1
    refine ⟨_, rfl, v1, d1, rfl, h1, fun H2 s2 => ⟨_, rfl, ?_⟩⟩
    cases hq : isSeqD d1 with
    | false =>
      refine iteT ?_
      refine iteT ?_
      exact k1 _ (some wF) s2 (by rw [if_neg (by rw [hq]; exact Bool.false_ne_true)])
    | true =>
      refine iteF ?_
      obtain ⟨A1, xs1, rfl, hS1, hX1, hL1, hO1⟩ := (h1.same s2).seq (K := K) hq
      have ln1 := hX1.len
      rw [hq, Bool.true_and] at k1
      generalize itemsD d1 = ds1 at hX1 hL1 ln1 k1
      refine seq_pi hS1 rfl fun J hJ => fun M nM => lc_seq hJ (fun i H' => Same H2 H' ∧ H' M = some (.lst (((ds1.take i).map isFD).map V.bl))) ⟨same_upd nM, upd_same⟩ (fun i H' q => q.1) ?_ ?_
      · rintro i x H' hx ⟨s', e'⟩
        obtain ⟨e, he, hxe⟩ := hX1.get hx
        have hi : i < ds1.length := (List.getElem?_eq_some_iff.mp he).1
        refine ⟨rfl, _, rfl, x, e, rfl, hxe.same s', fun H3 s3 => ⟨_, rfl, ?_⟩⟩
        have fin : ∀ H4, Same H3 H4 → ∃ acc, H4 M = some (.lst acc) ∧ acc.length < sizeLine ∧ Same H2 (upd H4 M (.lst (acc ++ [V.bl (isFD e)]))) ∧ (upd H4 M (.lst (acc ++ [V.bl (isFD e)]))) M = some (.lst (((ds1.take (i + 1)).map isFD).map V.bl)) := fun H4 s4 => by
          have s34 := s3.trans s4
          refine ⟨_, s34 _ _ e', ?_, (s'.trans s34).upd1 nM, ?_⟩
          · rw [List.length_map, List.length_map, List.length_take]
            exact small2000 (by omega)
          · rw [upd_same, List.take_add_one, he, List.map_append, List.map_append]
            rfl
        cases hst : isStepD e with
        | true =>
          refine iteT ?_
          have := fin H3 (Same.refl _)
          rw [show isFD e = true by unfold isFD; rw [hst]; rfl] at this
          exact this
        | false =>
          refine iteF ?_
          refine ⟨_, rfl, x, e, rfl, hxe.same (s'.trans s3), fun H4 s4 => ?_⟩
          have := fin H4 s4
          rw [show isFD e = isEndlD e by unfold isFD; rw [hst]; rfl] at this
          exact this
      · rintro H3 ⟨s3, e3⟩
        rw [ln1, List.take_length] at e3
        refine ⟨M, _, rfl, SqL.of e3, _, rfl, ?_⟩
        have ea : (ds1.map isFD).all id = ds1.all isFD := by rw [List.all_map]; rfl
        rw [ea]
        have s23 := s2.trans s3
        cases hr1 : ds1.all isFD with
        | false =>
          refine iteT ?_
          exact k1 _ (some wF) s23 (by rw [if_neg (by rw [hr1]; exact Bool.false_ne_true)])
        | true =>
          refine iteF ?_
          rw [if_pos hr1] at k1
          have hds := map_eqs (fun d => first_eq) hr1
          have hv0 : v0 = cV (cO d0) := dv_c (by
            have ed : d0 = cD (cO d0) := by
              cases d0 <;> first | rfl | cases hU
            rw [← ed]
            exact h0)
          have k2 : ∀ H' wd, Same H3 H' → wd = (if riseF (none, cO d0) (ds1.map stO) = true then wordA d0 (ds1.map stO) d2 d3 d4 else some wF) → Q (wv wd) H' := fun H' wd s' e => k1 H' wd (s23.trans s') e
          have hS1 := s3.sqs hS1
          have hX1 := hX1.same s3
          have h2 := h2.same s23
          have h3 := h3.same s23
          have h4 := h4.same s23
          clear k1 h0 h1 s2 s3 s23 e3 nM ea hO1 hJ J
          rw [hds] at hX1
          generalize ds1.map stO = fs at hX1 k2 hds
          have ln1 : xs1.length = fs.length := by
            have := hX1.len
            rw [List.length_map] at this
            exact this
          have hlf : fs.length ≤ 2000 := by
            rw [← ln1]
            rw [hds, List.length_map, ← ln1] at hL1
            exact hL1
          clear hds hr1 hL1
          refine ⟨_, rfl, Nat.le_of_ble_eq_true rfl, fun p np => ?_⟩
          generalize hq : upd H3 p _ = H4
          obtain ⟨s4, e4⟩ := new_facts np hq
          clear hq
          refine ⟨_, rfl, A1, _, rfl, (s4.sqs hS1).symm, ?_⟩
          refine ⟨Nat.le_of_lt (small2000 (by simp only [List.length_cons, List.length_append, List.length_nil]; omega)), fun L nL => ?_⟩
          generalize hq : upd H4 L _ = H5
          obtain ⟨s5, e5⟩ := new_facts nL hq
          clear hq
          rw [List.append_nil] at e5
          have s35 := s4.trans s5
          refine ⟨L, .ref p, xs1, (none, cO d0), fs, rfl, e5, pr_dv (by rw [← hv0]; exact s5 _ _ e4), hX1.same s35, hlf, fun H6 s6 => ⟨_, rfl, ?_⟩⟩
          have s36 := s35.trans s6
          cases hri : riseF (none, cO d0) fs with
          | false =>
            refine iteT ?_
            exact k2 _ (some wF) s36 (by rw [if_neg (by rw [hri]; exact Bool.false_ne_true)])
          | true =>
            refine iteF ?_
            rw [if_pos hri] at k2
            have k3 : ∀ H' wd, Same H6 H' → wd = wordA d0 fs d2 d3 d4 → Q (wv wd) H' := fun H' wd s' e => k2 H' wd (s36.trans s') e
            have hS1 := s36.sqs hS1
            have hX1 := hX1.same s36
            have h2 := h2.same s36
            have h3 := h3.same s36
            have h4 := h4.same s36
            clear k2 s4 s5 s6 s35 s36 e4 e5 np nL
            refine ⟨_, rfl, v2, d2, rfl, h2, fun H7 s7 => ⟨_, rfl, ?_⟩⟩
            cases hq2 : isSeqD d2 with
            | false =>
              refine iteT ?_
              refine iteT ?_
              exact k3 _ (some wA) s7 (by unfold wordA; rw [if_neg (by rw [hq2]; exact Bool.false_ne_true)])
            | true =>
              refine iteF ?_
              obtain ⟨A2, xs2, rfl, hS2, hX2, hL2, hO2⟩ := (h2.same s7).seq (K := K) hq2
              have ln2 := hX2.len
              have k4 : ∀ H' wd, Same H6 H' → wd = (if (itemsD d2).all isStepD = true then wordR ((fs.getLast?.map prO).getD (none, cO d0)) ((itemsD d2).map stO) d3 d4 else some wA) → Q (wv wd) H' := fun H' wd s' e => k3 H' wd s' (by
                rw [e]
                unfold wordA
                rw [hq2, Bool.true_and])
              clear k3
              generalize itemsD d2 = ds2 at hX2 hL2 ln2 k4
              refine seq_pi hS2 rfl fun J hJ => fun M nM => lc_seq hJ (fun i H' => Same H7 H' ∧ H' M = some (.lst (((ds2.take i).map isStepD).map V.bl))) ⟨same_upd nM, upd_same⟩ (fun i H' q => q.1) ?_ ?_
              · rintro i x H' hx ⟨s', e'⟩
                obtain ⟨e, he, hxe⟩ := hX2.get hx
                have hi : i < ds2.length := (List.getElem?_eq_some_iff.mp he).1
                refine ⟨rfl, _, rfl, x, e, rfl, hxe.same s', fun H8 s8 => ⟨_, s8 _ _ e', ?_, (s'.trans s8).upd1 nM, ?_⟩⟩
                · rw [List.length_map, List.length_map, List.length_take]
                  exact small2000 (by omega)
                · rw [upd_same, List.take_add_one, he, List.map_append, List.map_append]
                  rfl
              · rintro H8 ⟨s8, e8⟩
                rw [ln2, List.take_length] at e8
                refine ⟨M, _, rfl, SqL.of e8, _, rfl, ?_⟩
                have ea : (ds2.map isStepD).all id = ds2.all isStepD := by rw [List.all_map]; rfl
                rw [ea]
                have s68 := s7.trans s8
                cases hr2 : ds2.all isStepD with
                | false =>
                  refine iteT ?_
                  exact k4 _ (some wA) s68 (by rw [if_neg (by rw [hr2]; exact Bool.false_ne_true)])
                | true =>
                  refine iteF ?_
                  rw [if_pos hr2] at k4
                  have hds := map_eqs (fun d h => (step_eq h).1) hr2
                  have hsm : ∀ y ∈ ds2.map stO, ∃ c, y.2 = some c ∧ 0 ≤ c := fun y hy => by
                    obtain ⟨d, hd, rfl⟩ := List.mem_map.mp hy
                    exact (step_eq (List.all_eq_true.mp hr2 d hd)).2
                  have k5 : ∀ H' wd, Same H8 H' → wd = wordR ((fs.getLast?.map prO).getD (none, cO d0)) (ds2.map stO) d3 d4 → Q (wv wd) H' := fun H' wd s' e => k4 H' wd (s68.trans s') e
                  have hS2 := s8.sqs hS2
                  have hX2 := hX2.same s8
                  have hS1 := s68.sqs hS1
                  have hX1 := hX1.same s68
                  have h3 := h3.same s68
                  have h4 := h4.same s68
                  clear k4 h2 s7 s8 s68 e8 nM ea hO2 hJ J
                  rw [hds] at hX2
                  generalize ds2.map stO = as at hX2 k5 hds hsm
                  have ln2 : xs2.length = as.length := by
                    have := hX2.len
                    rw [List.length_map] at this
                    exact this
                  have hla : as.length ≤ 2000 := by
                    rw [← ln2]
                    rw [hds, List.length_map, ← ln2] at hL2
                    exact hL2
                  clear hds hr2 hL2
                  obtain ⟨l, hl⟩ : ∃ l, l = (fs.getLast?.map prO).getD (none, cO d0) := ⟨_, rfl⟩
                  rw [← hl] at k5
                  refine ⟨fun σ' H' => ∃ p, σ' = [some v0, some (.ref A1), some (.ref A2), some v3, some v4, some (.ref p), none] ∧ Same H8 H' ∧ H' p = some (.tup [cV l.1, cV l.2]), ?_, ?_⟩
                  · refine ⟨_, rfl, A1, xs1, rfl, hS1, _, _, rfl, rfl, _, rfl, ?_⟩
                    rcases List.eq_nil_or_concat fs with hf | ⟨fs', y, hf⟩
                    · rw [hf] at ln1 hl
                      rw [decide_eq_false (by rw [ln1]; decide)]
                      refine iteF ?_
                      refine ⟨_, rfl, Nat.le_of_ble_eq_true rfl, fun p np => ⟨p, rfl, same_upd np, ?_⟩⟩
                      rw [upd_same, hv0, hl]
                      rfl
                    · rw [List.concat_eq_append] at hf
                      rw [hf] at ln1 hl hX1
                      rw [List.map_append] at hX1
                      obtain ⟨x, ex, dx⟩ := DvAll.last hX1
                      rw [decide_eq_true (by rw [ln1, List.length_append, List.length_singleton]; omega)]
                      refine iteT ?_
                      obtain ⟨q, rfl, eq⟩ := dv_pr (x := prO y) dx
                      rw [List.getLast?_append, List.getLast?_singleton] at hl
                      have hl : l = prO y := hl
                      rcases hS1 with hS1 | hS1
                      · exact Or.inl ⟨_, rfl, _, rfl, A1, xs1, -1, _, rfl, rfl, hS1, atI_neg1 ex, q, rfl, Same.refl _, by rw [eq, hl]⟩
                      · exact Or.inr ⟨_, rfl, _, rfl, A1, xs1, -1, _, rfl, rfl, hS1, atI_neg1 ex, q, rfl, Same.refl _, by rw [eq, hl]⟩
                  · rintro σ' H9 ⟨p, rfl, s9, ep⟩
                    have k6 : ∀ H' wd, Same H9 H' → wd = wordR l as d3 d4 → Q (wv wd) H' := fun H' wd s' e => k5 H' wd (s9.trans s') e
                    have hS2 := s9.sqs hS2
                    have hX2 := hX2.same s9
                    have h3 := h3.same s9
                    have h4 := h4.same s9
                    clear k5 hS1 hX1 s9
                    refine ⟨_, rfl, _, _, _, _, rfl, rfl, SqT.of ep, rfl, rfl, _, rfl, ?_⟩
                    rw [cV_non]
                    obtain ⟨l1, l2⟩ := l
                    cases l2 with
                    | none =>
                      refine iteT ?_
                      have k7 : ∀ H' wd, Same H9 H' → wd = (if 0 < as.length then some wA else if (isNumD d3 && decide (intD d3 ≤ 0)) = true then (if (isNumD d4 && decide (intD d4 = 0)) = true then none else some wM) else some wT) → Q (wv wd) H' := k6
                      clear k6
                      refine ⟨_, rfl, A2, xs2, rfl, hS2, _, _, rfl, rfl, _, rfl, ?_⟩
                      rw [ln2]
                      refine ite2 (fun c => ?_) (fun c => ?_)
                      · have c' := of_decide_eq_true c
                        exact k7 _ (some wA) (Same.refl _) (by rw [if_pos (by omega)])
                      · have c' : ¬ 0 < as.length := fun q => c (decide_eq_true (by omega))
                        rw [if_neg c'] at k7
                        refine ⟨_, rfl, v3, d3, rfl, h3, fun Ha sa => ⟨_, rfl, ?_⟩⟩
                        cases hn : isNumD d3 with
                        | false =>
                          refine iteT ?_
                          refine iteT ?_
                          exact k7 _ (some wT) sa (by rw [if_neg (by rw [hn]; exact Bool.false_ne_true)])
                        | true =>
                          refine iteF ?_
                          obtain ⟨en, _⟩ := num_eq hn
                          rw [hn, Bool.true_and] at k7
                          generalize intD d3 = n3 at en k7
                          subst en
                          obtain rfl : v3 = .int n3 := by cases h3; rfl
                          refine ⟨_, rfl, _, _, rfl, rfl, _, rfl, ?_⟩
                          refine ite2 (fun c => ?_) (fun c => ?_)
                          · have c2 := of_decide_eq_true c
                            exact k7 _ (some wT) sa (by rw [if_neg (by rw [decide_eq_false (by omega)]; decide)])
                          · have c2 : ¬ 0 < n3 := fun q => c (decide_eq_true q)
                            rw [if_pos (decide_eq_true (by omega))] at k7
                            refine ⟨_, rfl, v4, d4, rfl, h4.same sa, fun Hb sb => ⟨_, rfl, ?_⟩⟩
                            cases hm : isNumD d4 with
                            | false =>
                              refine iteF ?_
                              refine iteF ?_
                              exact k7 _ (some wM) (sa.trans sb) (by rw [if_neg (by rw [hm]; exact Bool.false_ne_true)])
                            | true =>
                              refine iteT ?_
                              obtain ⟨em, _⟩ := num_eq hm
                              rw [hm, Bool.true_and] at k7
                              generalize intD d4 = n4 at em k7
                              subst em
                              obtain rfl : v4 = .int n4 := by cases h4; rfl
                              refine ⟨_, rfl, rfl, _, rfl, ?_⟩
                              refine ite2 (fun c => ?_) (fun c => ?_)
                              · have c2 : n4 = 0 := V.int.inj (of_decide_eq_true c)
                                exact k7 _ none (sa.trans sb) (by rw [if_pos (decide_eq_true c2)])
                              · have c2 : ¬ n4 = 0 := fun q => c (decide_eq_true (by rw [q]))
                                exact k7 _ (some wM) (sa.trans sb) (by rw [if_neg (by rw [decide_eq_false c2]; decide)])
                    | some l2 =>
                      refine iteF ?_
                      have k7 : ∀ H' wd, Same H9 H' → wd = (match as.head?, as.getLast? with
    | some x, some y => if riseF (l1, some l2) as = true then (if (isNumD d3 && decide (y.1 - x.1 < intD d3)) = true then (if (isNumD d4 && decide ((y.2.getD 0) - (x.2.getD 0) < intD d4)) = true then none else some wM) else some wT) else some wA
    | _, _ => some wA) → Q (wv wd) H' := k6
                      clear k6
                      refine ⟨_, rfl, A2, xs2, rfl, hS2, rfl, _, rfl, ?_⟩
                      rw [ln2]
                      rcases List.eq_nil_or_concat as with ha | ⟨as', y, ha⟩
                      · rw [ha] at k7
                        rw [ha, decide_eq_true (by rfl)]
                        refine iteT ?_
                        refine iteT ?_
                        exact k7 _ (some wA) (Same.refl _) rfl
                      · rw [List.concat_eq_append] at ha
                        obtain ⟨x, as2, ha2⟩ : ∃ x as2, as = x :: as2 := by
                          cases as with
                          | nil => exact absurd (congrArg List.length ha) (by rw [List.length_append]; simp)
                          | cons x as2 => exact ⟨x, as2, rfl⟩
                        rw [decide_eq_false (by rw [ha2]; intro q; have := V.int.inj q; rw [List.length_cons] at this; omega)]
                        refine iteF ?_
                        have k8 : ∀ H' wd, Same H9 H' → wd = (if riseF (l1, some l2) as = true then (if (isNumD d3 && decide (y.1 - x.1 < intD d3)) = true then (if (isNumD d4 && decide ((y.2.getD 0) - (x.2.getD 0) < intD d4)) = true then none else some wM) else some wT) else some wA) → Q (wv wd) H' := fun H' wd s' e => k7 H' wd s' (by
                          rw [e, show as.head? = some x by rw [ha2]; rfl, show as.getLast? = some y by rw [ha]; exact List.getLast?_concat ..])
                        clear k7
                        obtain ⟨cx, ecx, _⟩ := hsm x (by rw [ha2]; exact List.mem_cons_self)
                        obtain ⟨cy, ecy, _⟩ := hsm y (by rw [ha]; exact List.mem_append_right _ List.mem_cons_self)
                        rw [ecx, ecy] at k8
                        have hXa := hX2
                        rw [ha2, List.map_cons] at hXa
                        obtain ⟨z1, hz1, dz1⟩ := hXa.hd
                        obtain ⟨q1, rfl, eq1⟩ := dv_pr (x := prO x) dz1
                        have hXb := hX2
                        rw [ha, List.map_append] at hXb
                        obtain ⟨z2, hz2, dz2⟩ := DvAll.last hXb
                        obtain ⟨q2, rfl, eq2⟩ := dv_pr (x := prO y) dz2
                        have eq1 : H9 q1 = some (.tup [.int x.1, .int cx]) := by
                          rw [eq1]
                          show some (HO.tup [.int x.1, cV x.2]) = _
                          rw [ecx]
                          rfl
                        have eq2 : H9 q2 = some (.tup [.int y.1, .int cy]) := by
                          rw [eq2]
                          show some (HO.tup [.int y.1, cV y.2]) = _
                          rw [ecy]
                          rfl
                        clear hXa hXb dz1 dz2 ha ha2 hsm
                        refine ⟨_, rfl, _, rfl, A2, _, rfl, hS2.symm, ?_⟩
                        refine ⟨Nat.le_of_lt (small2000 (by simp only [List.length_cons, List.length_append, List.length_nil]; omega)), fun L nL => ?_⟩
                        generalize hq : upd H9 L _ = H10
                        obtain ⟨s10, e10⟩ := new_facts nL hq
                        clear hq
                        rw [List.append_nil] at e10
                        refine ⟨L, .ref p, xs2, (l1, some l2), as, rfl, e10, pr_dv (s10 _ _ ep), hX2.same s10, hla, fun Ha sa => ⟨_, rfl, ?_⟩⟩
                        have sa := s10.trans sa
                        cases hri2 : riseF (l1, some l2) as with
                        | false =>
                          refine iteT ?_
                          exact k8 _ (some wA) sa (by rw [if_neg (by rw [hri2]; exact Bool.false_ne_true)])
                        | true =>
                          refine iteF ?_
                          rw [if_pos hri2] at k8
                          refine ⟨_, rfl, v3, d3, rfl, h3.same sa, fun Hb sb => ⟨_, rfl, ?_⟩⟩
                          have sb := sa.trans sb
                          cases hn : isNumD d3 with
                          | false =>
                            refine iteT ?_
                            refine iteT ?_
                            exact k8 _ (some wT) sb (by rw [if_neg (by rw [hn]; exact Bool.false_ne_true)])
                          | true =>
                            refine iteF ?_
                            obtain ⟨en, _⟩ := num_eq hn
                            rw [hn, Bool.true_and] at k8
                            generalize intD d3 = n3 at en k8
                            subst en
                            obtain rfl : v3 = .int n3 := by cases h3; rfl
                            refine ⟨_, rfl, ?_⟩
                            refine rd_pair (i := -1) (sb.sqs hS2) rfl (fun R h => ⟨1, rfl, h⟩) (atI_neg1 hz2) (sb _ _ eq2) rfl ?_
                            refine rd_pair (i := 0) (sb.sqs hS2) rfl (fun R h => h) hz1 (sb _ _ eq1) rfl ?_
                            refine ⟨_, _, rfl, rfl, _, _, rfl, rfl, _, rfl, ?_⟩
                            refine ite2 (fun c => ?_) (fun c => ?_)
                            · have c2 := of_decide_eq_true c
                              exact k8 _ (some wT) sb (by rw [if_neg (by rw [decide_eq_false (by omega)]; decide)])
                            · have c2 : ¬ n3 ≤ y.1 - x.1 := fun q => c (decide_eq_true q)
                              rw [if_pos (decide_eq_true (by omega))] at k8
                              refine ⟨_, rfl, v4, d4, rfl, h4.same sb, fun Hc sc => ⟨_, rfl, ?_⟩⟩
                              have sc := sb.trans sc
                              cases hm : isNumD d4 with
                              | false =>
                                refine iteF ?_
                                refine iteF ?_
                                exact k8 _ (some wM) sc (by rw [if_neg (by rw [hm]; exact Bool.false_ne_true)])
                              | true =>
                                refine iteT ?_
                                obtain ⟨em, _⟩ := num_eq hm
                                rw [hm, Bool.true_and] at k8
                                generalize intD d4 = n4 at em k8
                                subst em
                                obtain rfl : v4 = .int n4 := by cases h4; rfl
                                refine ⟨_, rfl, ?_⟩
                                refine rd_pair (i := -1) (sc.sqs hS2) rfl (fun R h => ⟨1, rfl, h⟩) (atI_neg1 hz2) (sc _ _ eq2) rfl ?_
                                refine rd_pair (i := 0) (sc.sqs hS2) rfl (fun R h => h) hz1 (sc _ _ eq1) rfl ?_
                                refine ⟨_, _, rfl, rfl, _, _, rfl, rfl, _, rfl, ?_⟩
                                refine ite2 (fun c => ?_) (fun c => ?_)
                                · have c2 : cy - cx < n4 := of_decide_eq_true c
                                  exact k8 _ none sc (if_pos (decide_eq_true c2)).symm
                                · have c2 : ¬ cy - cx < n4 := fun q => c (decide_eq_true q)
                                  exact k8 _ (some wM) sc (if_neg (by show ¬ (decide (cy - cx < n4)) = true; rw [decide_eq_false c2]; decide)).symm
end
end My

/-! a heap without one thing that changes -/
namespace My
open PySem PySem.Spec PyProof.Rows L2
def off (b : Addr) (H : Hp) : Hp := fun c => if c = b then none else H c
section
variable {b c p : Addr} {H H' H0 H1 H2 : Hp} {o : HO} {v : V} {d : PyData} {xs : List V} {ds : List PyData}
theorem off_at : off b H b = none := if_pos rfl
theorem off_ne (n : c ≠ b) : off b H c = H c := if_neg n
theorem off_of (h : off b H c = some o) : c ≠ b ∧ H c = some o := by
  by_cases e : c = b
  · rw [e, off_at] at h
    cases h
  · rw [off_ne e] at h
    exact ⟨e, h⟩
theorem off_same : Same (off b H) H := fun c o e => (off_of e).2
theorem off_upd : off b (upd H b o) = off b H := funext fun c => by
  by_cases e : c = b
  · rw [e, off_at, off_at]
  · rw [off_ne e, off_ne e, upd_ne e]
theorem off_upd_ne (n : p ≠ b) : off b (upd H p o) = upd (off b H) p o := funext fun c => by
  by_cases e : c = b
  · rw [e, off_at, upd_ne (Ne.symm n), off_at]
  · rw [off_ne e]
    by_cases e2 : c = p
    · rw [e2, upd_same, upd_same]
    · rw [upd_ne e2, upd_ne e2, off_ne e]
theorem off_to (s : Same H0 H) (n : H0 b = none) : Same H0 (off b H) := fun c o e => by
  rw [off_ne (ne_of_none e n)]
  exact s _ _ e
theorem off_off (s : Same H H') : Same (off b H) (off b H') := fun c o e => by
  rw [off_ne (off_of e).1]
  exact s _ _ (off_of e).2
theorem off_bx (s : Bx b H H') : Same (off b H) (off b H') := fun c o e => by
  rw [off_ne (off_of e).1]
  exact s _ _ (off_of e).1 (off_of e).2
theorem bx_off (s : Same (off b H) H') : Bx b H H' := fun c o n e => s c o (by rw [off_ne n]; exact e)
theorem off_free (n : off b H p = none) (ne : p ≠ b) : H p = none := by
  rw [off_ne ne] at n
  exact n
theorem off_none (n : H p = none) : off b H p = none := by
  by_cases e : p = b
  · rw [e, off_at]
  · rw [off_ne e, n]
end
end My

namespace My
open PySem PySem.Spec PyProof.Rows L2
local macro_rules | `(tactic| walk_at "side") => `(tactic| first | (dsimp only; omega) | exact ⟨by omega, by omega⟩ | exact Or.inl ⟨by omega, by omega⟩ | exact Or.inr ⟨by omega, by omega⟩ | decide)
local macro_rules | `(tactic| walk_at "sq") => `(tactic| first | assumption | exact SqL.of (by assumption) | exact SqT.of (by assumption) | (refine L2.Same.seq (by assumption) ?_; walk_at "sq") | (refine L2.Same.seqT (by assumption) ?_; walk_at "sq") | exact Or.inl (by walk_at "sq") | exact Or.inr (by walk_at "sq"))
local macro_rules | `(tactic| walk_at "1") => `(tactic| first
  | refine ⟨_, rfl, iteT ?_⟩
  | refine ⟨_, rfl, iteF ?_⟩
  | refine ⟨_, rfl, ?_⟩
  | refine ⟨_, _, rfl, rfl, (by walk_at "side"), ?_⟩
  | refine ⟨_, _, rfl, rfl, ?_⟩
  | refine ⟨_, _, _, _, true, rfl, .ty _, .base (.int _), kit_ty (a := "int") (by decide +kernel), ?_⟩
  | refine ⟨_, _, _, _, false, rfl, .ty _, .base (.int _), kit_ty (a := "int") (by decide +kernel), ?_⟩
  | refine ⟨_, _, rfl, (by walk_at "sq"), ?_⟩
  | refine ⟨_, _, _, _, rfl, rfl, (by walk_at "sq"), (by first | rfl | assumption), ?_⟩
  | refine Or.inl ⟨_, _, _, _, rfl, rfl, (by walk_at "sq"), (by first | rfl | assumption), ?_⟩
  | refine Or.inr (Or.inl ⟨_, _, _, _, rfl, rfl, (by walk_at "sq"), (by first | rfl | assumption), ?_⟩)
  | refine ⟨_, _, rfl, Or.inl ⟨(by walk_at "sq"), ?_⟩⟩
  | refine ⟨rfl, ?_⟩
  | refine iteT ?_
  | refine iteF ?_
  | refine ⟨_, _, _, _, _, rfl, (by assumption), (by assumption), (by assumption), (by assumption), ?_⟩
  | refine Or.inl ⟨_, rfl, ?_⟩
  | refine Or.inr ⟨_, rfl, ?_⟩
  | refine ⟨_, _, rfl, (by walk_at "side"), ?_⟩
  | refine ⟨_, _, rfl, ?_⟩)
local macro_rules | `(tactic| walk_at "fld") => `(tactic| skip)
local macro_rules | `(tactic| walk_at "s") => `(tactic| repeat walk_at "1")
local macro_rules | `(tactic| walk_at "size") => `(tactic| first | exact Nat.le_of_ble_eq_true rfl | (simp only [List.length_map, List.length_append, List.length_cons, List.length_nil]; omega))
local macro_rules | `(tactic| walk_at "new") => `(tactic| (first | refine ⟨(by walk_at "size"), fun p hp => ?_⟩ | refine fun p hp => ?_); (generalize hq : upd _ p _ = H1); (obtain ⟨s, e⟩ := new_facts hp hq); clear hq)
/-! steps moved, the least form -/
abbrev Sti := Int × Int
def up (x : Sti) : Stp := (x.1, some x.2)
def siD (x : Sti) : PyData := .tuple [.int x.1, .int x.2]
theorem si_st (x : Sti) : siD x = stD (up x) := rfl
def mv (l g : Int) (x : Sti) : Sti := (x.1 + l, x.2 + g)
theorem dv_si {H : Hp} {v : V} {x : Sti} (h : Dv H v (siD x)) : ∃ p, v = .ref p ∧ H p = some (.tup [.int x.1, .int x.2]) := dv_pr (x := prO (up x)) h
theorem si_dv {H : Hp} {p : Addr} {x : Sti} (h : H p = some (.tup [.int x.1, .int x.2])) : Dv H (.ref p) (siD x) := pr_dv (x := prO (up x)) h
/-! ### steps compared -/
theorem canLay_si : ∀ xs : List Sti, PyData.canLayAll0 (xs.map siD) = true
  | [] => rfl
  | x :: r => by
    show (true && PyData.canLayAll0 (r.map siD)) = true
    rw [canLay_si r]
    rfl
theorem depth_si : ∀ xs : List Sti, PyData.depthAll (xs.map siD) ≤ 1
  | [] => Nat.zero_le _
  | x :: r => by
    have h := depth_si r
    have e : PyData.depthAll ((x :: r).map siD) = max 1 (PyData.depthAll (r.map siD)) := rfl
    rw [e]
    omega
theorem shaped_si (xs : List Sti) : SeqAt.shaped (.list (xs.map siD)) = true := by
  have h := depth_si xs
  show (PyData.canLayAll0 (xs.map siD) && decide (PyData.depthAll (xs.map siD) + 1 ≤ 64)) = true
  rw [canLay_si, decide_eq_true (by omega)]
  rfl
theorem eqv_si (x y : Sti) : PyData.eqv (siD x) (siD y) = decide (x = y) := by
  obtain ⟨a, b⟩ := x
  obtain ⟨c, d⟩ := y
  show (a == c && (b == d && true)) = decide ((a, b) = (c, d))
  by_cases h1 : a = c
  · by_cases h2 : b = d
    · subst h1 h2
      simp
    · rw [beq_eq_false_iff_ne.mpr h2, decide_eq_false (fun q => h2 (Prod.mk.inj q).2)]
      simp
  · rw [beq_eq_false_iff_ne.mpr h1, decide_eq_false (fun q => h1 (Prod.mk.inj q).1)]
    rfl
theorem eqvAll_si : ∀ xs ys : List Sti, PyData.eqvAll (xs.map siD) (ys.map siD) = decide (xs = ys)
  | [], [] => rfl
  | [], _ :: _ => rfl
  | _ :: _, [] => rfl
  | x :: xs, y :: ys => by
    show (PyData.eqv (siD x) (siD y) && PyData.eqvAll (xs.map siD) (ys.map siD)) = decide (x :: xs = y :: ys)
    rw [eqv_si, eqvAll_si xs ys]
    by_cases e : x = y
    · subst e
      simp
    · rw [decide_eq_false e]
      exact (decide_eq_false fun q => e (List.cons.inj q).1).symm
theorem eqv_sil (xs ys : List Sti) : PyData.eqv (.list (xs.map siD)) (.list (ys.map siD)) = decide (xs = ys) := eqvAll_si xs ys
section
variable {P : Program} {w : World} {K : PySem.W.Frag} {mg : Str → Option Value} {base : Heap}
abbrev s_moved : Stmt := topS 33
theorem sc_moved : FnScope ["steps", "lasts", "grow", "time", "told"] ["steps", "lasts", "grow"] (defScope s_moved) := ⟨rfl, rfl, rfl, by decide +kernel, rfl, by decide +kernel, by decide +kernel⟩
def spMoved (K : PySem.W.Frag) : Sp := fun vs H Q _ => ∃ (a : Addr) (xs : List V) (as : List Sti) (l g : Int), vs = [.ref a, .int l, .int g] ∧ SqS K H a xs ∧ DvAll H xs (as.map siD) ∧ as.length ≤ 2000 ∧
  ∀ H' p ys, Same H H' → H p = none → H' p = some (.lst ys) → DvAll (off p H') ys ((as.map (mv l g)).map siD) → Q (.ref p) H'
set_option maxHeartbeats 4000000 in
theorem ok_moved (D : Df K mg "_moved" s_moved ["steps", "lasts", "grow"]) : Own P w K mg base "_moved" 1 ["steps", "lasts", "grow"] (spMoved K) := by
  refine D.own sc_moved (fun vs H Q E h => ?_) (fun fa cdv A outer s H vs Q E hr h => ?_)
  · obtain ⟨_, _, _, _, _, rfl, _⟩ := h
    rfl
  · obtain ⟨a, xs, as, l, g, rfl, hS, hX, hz, k⟩ := h
    refine ⟨_, (pss_one (ps_ret (pe_lc (own := [("time", 3), ("told", 4)]) (g := gTup K 2 (gCons (gName 3) (gCons (gName 4) gNil))) (tt := tYes) rfl sc_moved.nd (pi_alt (pi_list (pv 0)) (pi_tup (pv 0))) (blkOk_by (own := [("time", 3), ("told", 4)]) (N := ["steps", "lasts", "grow", "time", "told"]) (sc := defScope s_moved) (by decide +kernel)) (fun _ _ _ _ _ => (pg_tup (by rfl) (pgs_cons (pg_name (i := 3) sc_moved.nd rfl (Or.inl rfl)) (pgs_cons (pg_name (i := 4) sc_moved.nd rfl (Or.inl rfl)) pgs_nil)))) (fun _ _ _ _ _ => pts_nil) (fun _ _ _ _ _ => (pe_tup (pa_cons (pe_op op_add (pv 3) (pv 1)) (pa_cons (pe_op op_add (pv 4) (pv 2)) pa_nil))))))), ?_⟩
    have hl := hX.len
    rw [List.length_map] at hl
    refine seq_pi hS rfl fun J hJ => fun L nL => lc_seq hJ (fun i H' => Same H H' ∧ ∃ acc, H' L = some (.lst acc) ∧ DvAll (off L H') acc (((as.take i).map (mv l g)).map siD)) ⟨same_upd nL, [], upd_same, .nil⟩ (fun i H' q => q.1) ?_ ?_
    · rintro i x H' hi ⟨s1, acc, e1, hA⟩
      obtain ⟨d, hd, hx⟩ := hX.get hi
      rw [List.getElem?_map] at hd
      obtain ⟨y, hy, rfl⟩ := Option.map_eq_some_iff.mp hd
      obtain ⟨q, rfl, eq⟩ := dv_si (hx.same s1)
      have hi : i < as.length := (List.getElem?_eq_some_iff.mp hy).1
      have hal : acc.length = i := by
        rw [hA.len, List.length_map, List.length_map, List.length_take]
        omega
      refine ⟨q, _, rfl, SqT.of eq, rfl, _, _, rfl, _, _, rfl, rfl, rfl, ?_⟩
      refine ⟨_, rfl, _, rfl, _, _, rfl, rfl, _, rfl, _, rfl, _, _, rfl, rfl, Nat.le_of_ble_eq_true rfl, fun p np => ?_⟩
      have ne : p ≠ L := fun z => by rw [z, e1] at np; cases np
      refine ⟨acc, ?_, small2000 (by omega), ?_, acc ++ [.ref p], upd_same, ?_⟩
      · rw [upd_ne ne.symm]
        exact e1
      · exact (s1.trans (same_upd np)).upd1 nL
      · rw [off_upd, off_upd_ne ne, List.take_add_one, hy, List.map_append, List.map_append]
        have s2 : Same (off L H') (upd (off L H') p (.tup [.int (y.1 + l), .int (y.2 + g)])) := same_upd (off_none np)
        exact (hA.same s2).app (.cons (si_dv (x := mv l g y) upd_same) .nil)
    · rintro H' ⟨s1, acc, e1, hA⟩
      rw [hl, List.take_length] at hA
      exact k _ _ _ s1 nL e1 hA
end
end My

namespace My
open PySem PySem.Spec PyProof.Rows L2
local macro_rules | `(tactic| walk_at "side") => `(tactic| first | (dsimp only; omega) | exact ⟨by omega, by omega⟩ | exact Or.inl ⟨by omega, by omega⟩ | exact Or.inr ⟨by omega, by omega⟩ | decide)
local macro_rules | `(tactic| walk_at "sq") => `(tactic| first | assumption | exact SqL.of (by assumption) | exact SqT.of (by assumption) | (refine L2.Same.seq (by assumption) ?_; walk_at "sq") | (refine L2.Same.seqT (by assumption) ?_; walk_at "sq") | exact Or.inl (by walk_at "sq") | exact Or.inr (by walk_at "sq"))
local macro_rules | `(tactic| walk_at "1") => `(tactic| first
  | refine ⟨_, rfl, iteT ?_⟩
  | refine ⟨_, rfl, iteF ?_⟩
  | refine ⟨_, rfl, ?_⟩
  | refine ⟨_, _, rfl, rfl, (by walk_at "side"), ?_⟩
  | refine ⟨_, _, rfl, rfl, ?_⟩
  | refine ⟨_, _, _, _, true, rfl, .ty _, .base (.int _), kit_ty (a := "int") (by decide +kernel), ?_⟩
  | refine ⟨_, _, _, _, false, rfl, .ty _, .base (.int _), kit_ty (a := "int") (by decide +kernel), ?_⟩
  | refine ⟨_, _, rfl, (by walk_at "sq"), ?_⟩
  | refine ⟨_, _, _, _, rfl, rfl, (by walk_at "sq"), (by first | rfl | assumption), ?_⟩
  | refine Or.inl ⟨_, _, _, _, rfl, rfl, (by walk_at "sq"), (by first | rfl | assumption), ?_⟩
  | refine Or.inr (Or.inl ⟨_, _, _, _, rfl, rfl, (by walk_at "sq"), (by first | rfl | assumption), ?_⟩)
  | refine ⟨_, _, rfl, Or.inl ⟨(by walk_at "sq"), ?_⟩⟩
  | refine ⟨rfl, ?_⟩
  | refine iteT ?_
  | refine iteF ?_
  | refine ⟨_, _, _, _, _, rfl, (by assumption), (by assumption), (by assumption), (by assumption), ?_⟩
  | refine Or.inl ⟨_, rfl, ?_⟩
  | refine Or.inr ⟨_, rfl, ?_⟩
  | refine ⟨_, _, rfl, (by walk_at "side"), ?_⟩
  | refine ⟨_, _, rfl, ?_⟩)
local macro_rules | `(tactic| walk_at "fld") => `(tactic| skip)
local macro_rules | `(tactic| walk_at "s") => `(tactic| repeat walk_at "1")
local macro_rules | `(tactic| walk_at "size") => `(tactic| first | exact Nat.le_of_ble_eq_true rfl | (simp only [List.length_map, List.length_append, List.length_cons, List.length_nil]; omega))
local macro_rules | `(tactic| walk_at "new") => `(tactic| (first | refine ⟨(by walk_at "size"), fun p hp => ?_⟩ | refine fun p hp => ?_); (generalize hq : upd _ p _ = H1); (obtain ⟨s, e⟩ := new_facts hp hq); clear hq)
/-! from where on steps come again -/
def mvS (l g : Int) (x : Stp) : Stp := (x.1 + l, x.2.map (· + g))
theorem mv_up (l g : Int) (x : Sti) : mvS l g (up x) = up (mv l g x) := rfl
/-- b: the least place from which on what stands up to b0 comes again -/
structure ShortS (w : List Stp) (L : Nat) (T M : Int) (b0 b : Nat) : Prop where
  le : b ≤ b0
  eq : ∀ n, b ≤ n → n < b0 → w[n + L]? = (w[n]?).map (mvS T M)
  least : b = 0 ∨ L = 0 ∨ w[b - 1 + L]? ≠ (w[b - 1]?).map (mvS T M)
  nil : L = 0 → b = b0
/-- what least_form gives -/
def formD (w : List Stp) (b L : Nat) (T M : Int) : PyData := .tuple [.tuple ((w.take b).map stD), .tuple (((w.drop b).take L).map stD), .int T, .int M]
theorem cut_to {xs : List V} {t : Nat} (h : t ≤ xs.length) : cutV xs none (some (t : Int)) = xs.take t := by
  unfold cutV
  rw [HT.sIx_nat, HT.sIx_none, Nat.min_eq_left h, Nat.sub_zero]
  rfl
theorem cut_mid {xs : List V} {b t : Nat} (h : t ≤ xs.length) (hb : b ≤ t) : cutV xs (some (b : Int)) (some (t : Int)) = (xs.drop b).take (t - b) := by
  unfold cutV
  rw [HT.sIx_nat, HT.sIx_nat, Nat.min_eq_left h, Nat.min_eq_left (Nat.le_trans hb h)]
theorem DvAll.take {H : Hp} : ∀ {xs : List V} {ds : List PyData}, DvAll H xs ds → ∀ n, DvAll H (xs.take n) (ds.take n)
  | _, _, _, 0 => .nil
  | _, [], h, n + 1 => by
    rw [h.inv0, List.take_nil, List.take_nil]
    exact .nil
  | _, d :: ds, h, n + 1 => by
    obtain ⟨x, ys, rfl, h1, h2⟩ := h.inv
    exact .cons h1 (DvAll.take h2 n)
theorem DvAll.drop {H : Hp} : ∀ {xs : List V} {ds : List PyData}, DvAll H xs ds → ∀ n, DvAll H (xs.drop n) (ds.drop n)
  | _, _, h, 0 => h
  | _, [], h, n + 1 => by
    rw [h.inv0, List.drop_nil, List.drop_nil]
    exact .nil
  | _, d :: ds, h, n + 1 => by
    obtain ⟨x, ys, rfl, h1, h2⟩ := h.inv
    exact DvAll.drop h2 n
theorem DvAll.at {H : Hp} : ∀ {xs : List V} {ds : List PyData}, DvAll H xs ds → ∀ {i : Nat} {d : PyData}, ds[i]? = some d → ∃ x, xs[i]? = some x ∧ Dv H x d
  | _, [], _, i, _, e => by cases i <;> cases e
  | _, d :: ds, h, 0, _, e => by
    obtain ⟨x, ys, rfl, h1, h2⟩ := h.inv
    cases e
    exact ⟨x, rfl, h1⟩
  | _, d :: ds, h, i + 1, _, e => by
    obtain ⟨x, ys, rfl, h1, h2⟩ := h.inv
    exact DvAll.at h2 (i := i) e
theorem up_inj {x y : Sti} (h : up x = up y) : x = y := by
  have q1 : (up x).1 = (up y).1 := congrArg Prod.fst h
  have q2 : (up x).2 = (up y).2 := congrArg Prod.snd h
  exact Prod.ext q1 (Option.some.inj q2)
theorem ups {fs : List Stp} (h : ∀ x ∈ fs, x.2 ≠ none) : ∃ gs : List Sti, fs = gs.map up := by
  refine ⟨fs.map fun x => (x.1, x.2.getD 0), ?_⟩
  rw [List.map_map]
  refine (List.map_id fs).symm.trans (List.map_congr_left fun x hx => ?_)
  obtain ⟨t, c⟩ := x
  cases c with
  | none => exact absurd rfl (h _ hx)
  | some c => rfl
def spShortS (K : PySem.W.Frag) : Sp := fun vs H Q _ => ∃ (aF aA : Addr) (xf xa : List V) (fs : List Stp) (as : List Sti) (T M : Int), vs = [.ref aF, .ref aA, .int T, .int M] ∧ SqS K H aF xf ∧ DvAll H xf (fs.map stD) ∧ SqS K H aA xa ∧ DvAll H xa (as.map siD) ∧
  fs.length ≤ 1000 ∧ as.length ≤ 1000 ∧ (as = [] ∨ ∀ x ∈ fs, x.2 ≠ none) ∧
  ∀ H' p b, Same H H' → H p = none → ShortS (fs ++ as.map up) as.length T M fs.length b → Dv H' (.ref p) (formD (fs ++ as.map up) b as.length T M) → Q (.ref p) H'
section
variable {P : Program} {w : World} {K : PySem.W.Frag} {mg : Str → Option Value} {base : Heap}
abbrev s_shortest_first : Stmt := topS 34
theorem sc_shortest_first : FnScope ["first", "again", "turn", "more", "whole", "begin"] ["first", "again", "turn", "more"] (defScope s_shortest_first) := ⟨rfl, rfl, rfl, by decide +kernel, rfl, by decide +kernel, by decide +kernel⟩
set_option maxHeartbeats 8000000 in
theorem ok_shortest_first (D : DfA K mg "shortest_first_steps" "_shortest_first" s_shortest_first ["first", "again", "turn", "more"]) (T : Txt mg) (o_moved : Own P w K mg base "_moved" 1 ["steps", "lasts", "grow"] (spMoved K)) : Own P w K mg base "shortest_first_steps" 2 ["first", "again", "turn", "more"] (spShortS K) := by
  refine D.own sc_shortest_first (fun vs H Q E h => ?_) (fun fa cdv A outer s H vs Q E hr h => ?_)
  · obtain ⟨_, _, _, _, _, _, _, _, rfl, _⟩ := h
    rfl
  · obtain ⟨aF, aA, xf, xa, fs, as, t, m, rfl, hF, hXF, hA, hXA, lf, la, hne, k⟩ := h
    refine ⟨_, (pss_cons (ps_set (i := 4) sc_shortest_first.nd rfl (Or.inl rfl) (pe_lst (StX.pa_star (pv 0) (StX.pa_star (pv 1) pa_nil))))
  (pss_cons (ps_set (i := 5) sc_shortest_first.nd rfl (Or.inl rfl) (pe_callB call_len_seq (by rfl) T.len PySem.boot_len (pa_cons (pv 0) pa_nil)))
  (C8.pss_cut (ps_while PassesOwn.never (PW.pt (pw_and (pt_cmpR op_gt (pv 5) pe_int (nomark _)) (pw_and (pt_cmpR op_notN (pe_ix ix_tup (pe_ix ix_list (pv 4) (pe_op op_sub (pv 5) pe_int) (fun _ _ => rfl)) pe_int (fun _ _ => rfl)) pe_non (nomark _)) (pw_and1 (pt_cmpR op_gt (pe_callB call_len_seq (by rfl) T.len PySem.boot_len (pa_cons (pv 1) pa_nil)) pe_int (nomark _))))))
    (pss_cons (ps_if (pt_cmpR (op_neD hr.units) (pe_own o_moved (hr.mono (by decide)) (pa_cons (pe_lst (pa_cons (pe_ix ix_list (pv 4) (pe_op op_sub (pv 5) pe_int) (fun _ _ => rfl)) pa_nil)) (pa_cons (pv 2) (pa_cons (pv 3) pa_nil)))) (pe_lst (pa_cons (pe_ix ix_list (pv 4) (pe_op op_add (pe_op op_sub (pv 5) pe_int) (pe_callB call_len_seq (by rfl) T.len PySem.boot_len (pa_cons (pv 1) pa_nil))) (fun _ _ => rfl)) pa_nil)) (nomark _))
        (pss_one ps_break)
        pss_nil)
      (pss_one (ps_aug (i := 5) sc_shortest_first.nd rfl (Or.inl rfl) pe_int ip_sub))))
  (pss_one (ps_ret (pe_tup (pa_cons (pe_callTy call_tuple_of (by rfl) T.tuple (by decide +kernel) (pa_cons (pe_slice sl_list (pv 4) po_none (po_some (pv 5))) pa_nil)) (pa_cons (pe_callTy call_tuple_of (by rfl) T.tuple (by decide +kernel) (pa_cons (pe_slice sl_list (pv 4) (po_some (pv 5)) (po_some (pe_op op_add (pv 5) (pe_callB call_len_seq (by rfl) T.len PySem.boot_len (pa_cons (pv 1) pa_nil))))) pa_nil)) (pa_cons (pv 2) (pa_cons (pv 3) pa_nil)))))))))), ?_⟩
    have ef := hXF.len
    have ea := hXA.len
    rw [List.length_map] at ef ea
    obtain ⟨ws, hws⟩ : ∃ ws, ws = fs ++ as.map up := ⟨_, rfl⟩
    have lw : ws.length = fs.length + as.length := by rw [hws, List.length_append, List.length_map]
    refine ⟨_, rfl, aF, _, rfl, hF.symm, _, rfl, aA, _, rfl, hA.symm, ?_⟩
    refine ⟨Nat.le_of_lt (small2000 (by simp only [List.length_append, List.length_nil]; omega)), fun L nL => ?_⟩
    generalize hq : upd H L _ = H1
    obtain ⟨s1, e1⟩ := new_facts nL hq
    clear hq
    rw [List.append_nil] at e1
    have hXW : DvAll H1 (xf ++ xa) (ws.map stD) := by
      rw [hws, List.map_append, List.map_map]
      exact (hXF.same s1).app (hXA.same s1)
    have hA1 := s1.sqs hA
    have hF1 := s1.sqs hF
    clear hXF hXA hA hF
    rw [← hws] at k
    have lx : (xf ++ xa).length = ws.length := by rw [List.length_append]; omega
    generalize xf ++ xa = xw at e1 hXW lx
    refine ⟨_, rfl, aF, xf, rfl, hF1, ?_⟩
    rw [ef]
    refine ⟨fun σ' H' => ∃ b : Nat, σ' = [some (.ref aF), some (.ref aA), some (.int t), some (.int m), some (.ref L), some (.int (b : Nat))] ∧ Same H1 H' ∧ ShortS ws as.length t m fs.length b, ?_, ?_⟩
    · refine ⟨fun b σ' H' => b ≤ fs.length ∧ σ' = [some (.ref aF), some (.ref aA), some (.int t), some (.int m), some (.ref L), some (.int (b : Nat))] ∧ Same H1 H' ∧ (as.length = 0 → b = fs.length) ∧ ∀ n, b ≤ n → n < fs.length → ws[n + as.length]? = (ws[n]?).map (mvS t m),
        ⟨fs.length, Nat.le_refl _, rfl, Same.refl _, fun _ => rfl, fun n h1 h2 => absurd h1 (by omega)⟩, ?_⟩
      rintro b σ' H' ⟨hb, rfl, s2, hz, he⟩
      cases b with
      | zero =>
        refine ⟨_, rfl, _, _, rfl, rfl, _, rfl, ?_⟩
        rw [show decide ((0 : Int) < ((0 : Nat) : Int)) = false from rfl]
        refine iteF ?_
        refine iteF ?_
        exact ⟨0, rfl, s2, Nat.zero_le _, he, Or.inl rfl, hz⟩
      | succ b =>
        have lb : b < ws.length := by omega
        have ew : ws[b]? = some ws[b] := List.getElem?_eq_getElem lb
        have efs : ws[b]? = fs[b]? := by rw [hws, List.getElem?_append_left (by omega)]
        refine ⟨_, rfl, _, _, rfl, rfl, _, rfl, ?_⟩
        rw [decide_eq_true (by omega : (0 : Int) < ((b + 1 : Nat) : Int))]
        refine iteT ?_
        obtain ⟨v, hv, dv⟩ := (hXW.same s2).at (i := b) (d := stD ws[b]) (by rw [List.getElem?_map, ew]; rfl)
        obtain ⟨q, rfl, eq⟩ := dv_pr (x := prO ws[b]) dv
        refine ⟨_, rfl, _, rfl, _, _, rfl, rfl, _, _, _, _, rfl, rfl, SqL.of (s2 _ _ e1), at_of (by omega) hv, _, _, _, _, rfl, rfl, SqT.of eq, rfl, rfl, _, rfl, ?_⟩
        rw [cV_non, show (prO ws[b]).2 = ws[b].2 from rfl]
        have out : (as.length = 0 ∨ ws[b + as.length]? ≠ (ws[b]?).map (mvS t m)) → ∀ H3, Same H1 H3 → ∃ b' : Nat, [some (V.ref aF), some (V.ref aA), some (V.int t), some (V.int m), some (V.ref L), some (V.int ((b + 1 : Nat) : Int))] = [some (.ref aF), some (.ref aA), some (.int t), some (.int m), some (.ref L), some (.int (b' : Nat))] ∧ Same H1 H3 ∧ ShortS ws as.length t m fs.length b' := fun z H3 s3 =>
          ⟨b + 1, rfl, s3, hb, he, z.elim (fun z => Or.inr (Or.inl z)) fun z => Or.inr (Or.inr z), hz⟩
        have len0 : as.length = 0 → decide ((0 : Int) < (xa.length : Int)) = false := fun z => decide_eq_false (by omega)
        by_cases hae : as = []
        · have l0 : as.length = 0 := by rw [hae]; rfl
          cases hc : (ws[b].2).isNone with
          | true =>
            refine iteF ?_
            refine iteF ?_
            exact out (Or.inl l0) _ s2
          | false =>
            refine iteT ?_
            refine ⟨_, rfl, aA, xa, rfl, s2.sqs hA1, _, _, rfl, rfl, _, rfl, ?_⟩
            rw [len0 l0]
            refine iteF ?_
            exact out (Or.inl l0) _ s2
        · have l0 : 0 < as.length := List.length_pos_iff.mpr hae
          obtain ⟨us, hus⟩ : ∃ us : List Sti, ws = us.map up := by
            obtain ⟨gs, hg⟩ := ups (hne.resolve_left hae)
            exact ⟨gs ++ as, by rw [hws, hg, List.map_append]⟩
          have hXU : DvAll H1 xw (us.map siD) := by
            have := hXW
            rw [hus, List.map_map] at this
            exact this
          have lu : us.length = ws.length := by rw [hus, List.length_map]
          have ew2 : ∀ n, ws[n]? = (us[n]?).map up := fun n => by rw [hus, List.getElem?_map]
          have hn1 : ws[b].2.isNone = false := by
            have := ew2 b
            rw [ew, List.getElem?_eq_getElem (by omega)] at this
            rw [Option.some.inj this]
            rfl
          rw [hn1]
          refine iteT ?_
          refine ⟨_, rfl, aA, xa, rfl, s2.sqs hA1, _, _, rfl, rfl, _, rfl, ?_⟩
          rw [decide_eq_true (by omega : (0 : Int) < (xa.length : Int))]
          refine iteT ?_
          have hb1 : b < us.length := by omega
          have hb2 : b + as.length < us.length := by omega
          have eu1 : us[b]? = some us[b] := List.getElem?_eq_getElem hb1
          have eu2 : us[b + as.length]? = some us[b + as.length] := List.getElem?_eq_getElem hb2
          obtain ⟨v1, hv1, dv1⟩ := (hXU.same s2).at (i := b) (d := siD us[b]) (by rw [List.getElem?_map, eu1]; rfl)
          obtain ⟨v2, hv2, dv2⟩ := (hXU.same s2).at (i := b + as.length) (d := siD us[b + as.length]) (by rw [List.getElem?_map, eu2]; rfl)
          refine ⟨fun σ' H3 => σ' = [some (.ref aF), some (.ref aA), some (.int t), some (.int m), some (.ref L), some (.int (b : Nat))] ∧ Same H1 H3 ∧ ws[b + as.length]? = (ws[b]?).map (mvS t m), ?_, ?_⟩
          · rintro σ' H3 ⟨rfl, s3, e3⟩
            refine ⟨b, by omega, by omega, rfl, s3, fun z => by omega, fun n h1 h2 => ?_⟩
            by_cases e : n = b
            · rw [e]
              exact e3
            · exact he n (by omega) h2
          · refine ⟨_, rfl, _, rfl, _, _, rfl, rfl, _, _, _, _, rfl, rfl, SqL.of (s2 _ _ e1), at_of (by omega) hv1, Nat.le_of_ble_eq_true rfl, fun p np => ?_⟩
            generalize hq : upd H' p _ = H3
            obtain ⟨s3, e3⟩ := new_facts np hq
            clear hq
            refine ⟨_, rfl, _, rfl, p, _, [us[b]], t, m, rfl, Or.inl (SqL.of e3), .cons (dv1.same s3) .nil, by show 1 ≤ 2000; decide, fun H4 p4 ys s4 n4 e4 hY => ?_⟩
            have s24 := s2.trans (s3.trans s4)
            refine ⟨_, rfl, _, rfl, _, _, rfl, rfl, _, rfl, aA, xa, rfl, s24.sqs hA1, _, _, rfl, rfl, _, _, _, _, rfl, rfl, SqL.of (s24 _ _ e1), at_of (by omega) hv2, Nat.le_of_ble_eq_true rfl, fun p5 np5 => ?_⟩
            generalize hq : upd H4 p5 _ = H5
            obtain ⟨s5, e5⟩ := new_facts np5 hq
            clear hq
            have d1 : Dv H5 (.ref p4) (.list (([us[b]].map (mv t m)).map siD)) := .lst (s5 _ _ e4) (hY.same (off_same.trans s5)) (by show 1 ≤ 2000; decide)
            have d2 : Dv H5 (.ref p5) (.list ([us[b + as.length]].map siD)) := .lst e5 (.cons (dv2.same (s3.trans (s4.trans s5))) .nil) (by show 1 ≤ 2000; decide)
            refine ⟨_, _, d1.dp, d2.dp, shaped_si _, shaped_si _, ?_⟩
            rw [eqv_sil]
            refine ⟨_, rfl, ?_⟩
            have key : (ws[b + as.length]? = (ws[b]?).map (mvS t m)) ↔ mv t m us[b] = us[b + as.length] := by
              rw [ew2, ew2, eu1, eu2]
              show some (up us[b + as.length]) = some (up (mv t m us[b])) ↔ _
              constructor
              · intro q
                have q := Option.some.inj q
                exact (up_inj q).symm
              · intro q
                rw [q]
            by_cases hk : mv t m us[b] = us[b + as.length]
            · rw [decide_eq_true (by show [mv t m us[b]] = _; rw [hk])]
              refine iteF ?_
              refine ⟨_, rfl, _, _, rfl, rfl, ?_, s24.trans s5, key.mpr hk⟩
              show [some (V.ref aF), some (V.ref aA), some (V.int t), some (V.int m), some (V.ref L), some (V.int (((b + 1 : Nat) : Int) - 1))] = _
              rw [show ((b + 1 : Nat) : Int) - 1 = (b : Int) by omega]
            · rw [decide_eq_false (by intro q; exact hk (List.cons.inj q).1)]
              refine iteT ?_
              exact out (Or.inr fun q => hk (key.mp q)) _ (s24.trans s5)
    · rintro σ' H' ⟨b, rfl, s2, hb⟩
      have le := hb.le
      refine ⟨_, rfl, _, rfl, _, rfl, _, _, rfl, SqL.of (s2 _ _ e1), fun p1 n1 => ?_⟩
      generalize hq : upd H' p1 _ = H2
      obtain ⟨s3, e3⟩ := new_facts n1 hq
      clear hq
      rw [cut_to (by omega)] at e3
      refine ⟨p1, _, rfl, Or.inl ⟨SqL.of e3, fun p2 n2 => ?_⟩⟩
      generalize hq : upd H2 p2 _ = H3
      obtain ⟨s4, e4⟩ := new_facts n2 hq
      clear hq
      have s24 := s2.trans (s3.trans s4)
      refine ⟨_, rfl, _, rfl, _, rfl, _, rfl, _, rfl, aA, xa, rfl, s24.sqs hA1, _, _, rfl, rfl, _, rfl, _, _, rfl, SqL.of (s24 _ _ e1), fun p3 n3 => ?_⟩
      generalize hq : upd H3 p3 _ = H4
      obtain ⟨s5, e5⟩ := new_facts n3 hq
      clear hq
      rw [show (b : Int) + (xa.length : Int) = ((b + xa.length : Nat) : Int) by omega, cut_mid (by omega) (by omega), Nat.add_sub_cancel_left, ea] at e5
      refine ⟨p3, _, rfl, Or.inl ⟨SqL.of e5, fun p6 n6 => ?_⟩⟩
      generalize hq : upd H4 p6 _ = H6
      obtain ⟨s6, e6⟩ := new_facts n6 hq
      clear hq
      refine ⟨_, rfl, _, rfl, Nat.le_of_ble_eq_true rfl, fun p7 n7 => ?_⟩
      generalize hq : upd H6 p7 _ = H7
      obtain ⟨s7, e7⟩ := new_facts n7 hq
      clear hq
      have s27 := s24.trans (s5.trans (s6.trans s7))
      have n7' : H p7 = none := (s1.trans (s24.trans (s5.trans s6))).free n7
      have hX7 := hXW.same s27
      refine k H7 p7 b (s1.trans s27) n7' hb (.tup e7 (.cons (.tup (s7 _ _ (s6 _ _ (s5 _ _ e4))) ?_ ?_) (.cons (.tup (s7 _ _ e6) ?_ ?_) (.cons (.int _) (.cons (.int _) .nil)))) (by show 4 ≤ 2000; decide))
      · rw [List.map_take]
        exact hX7.take b
      · rw [List.length_map, List.length_take]
        omega
      · rw [List.map_take, List.map_drop]
        exact (hX7.drop b).take _
      · rw [List.length_map, List.length_take, List.length_drop]
        omega
end
end My

namespace My
open PySem PySem.Spec PyProof.Rows L2
local macro_rules | `(tactic| walk_at "side") => `(tactic| first | (dsimp only; omega) | exact ⟨by omega, by omega⟩ | exact Or.inl ⟨by omega, by omega⟩ | exact Or.inr ⟨by omega, by omega⟩ | decide)
local macro_rules | `(tactic| walk_at "sq") => `(tactic| first | assumption | exact SqL.of (by assumption) | exact SqT.of (by assumption) | (refine L2.Same.seq (by assumption) ?_; walk_at "sq") | (refine L2.Same.seqT (by assumption) ?_; walk_at "sq") | exact Or.inl (by walk_at "sq") | exact Or.inr (by walk_at "sq"))
local macro_rules | `(tactic| walk_at "1") => `(tactic| first
  | refine ⟨_, rfl, iteT ?_⟩
  | refine ⟨_, rfl, iteF ?_⟩
  | refine ⟨_, rfl, ?_⟩
  | refine ⟨_, _, rfl, rfl, (by walk_at "side"), ?_⟩
  | refine ⟨_, _, rfl, rfl, ?_⟩
  | refine ⟨_, _, _, _, true, rfl, .ty _, .base (.int _), kit_ty (a := "int") (by decide +kernel), ?_⟩
  | refine ⟨_, _, _, _, false, rfl, .ty _, .base (.int _), kit_ty (a := "int") (by decide +kernel), ?_⟩
  | refine ⟨_, _, rfl, (by walk_at "sq"), ?_⟩
  | refine ⟨_, _, _, _, rfl, rfl, (by walk_at "sq"), (by first | rfl | assumption), ?_⟩
  | refine Or.inl ⟨_, _, _, _, rfl, rfl, (by walk_at "sq"), (by first | rfl | assumption), ?_⟩
  | refine Or.inr (Or.inl ⟨_, _, _, _, rfl, rfl, (by walk_at "sq"), (by first | rfl | assumption), ?_⟩)
  | refine ⟨_, _, rfl, Or.inl ⟨(by walk_at "sq"), ?_⟩⟩
  | refine ⟨rfl, ?_⟩
  | refine iteT ?_
  | refine iteF ?_
  | refine ⟨_, _, _, _, _, rfl, (by assumption), (by assumption), (by assumption), (by assumption), ?_⟩
  | refine Or.inl ⟨_, rfl, ?_⟩
  | refine Or.inr ⟨_, rfl, ?_⟩
  | refine ⟨_, _, rfl, (by walk_at "side"), ?_⟩
  | refine ⟨_, _, rfl, ?_⟩)
local macro_rules | `(tactic| walk_at "fld") => `(tactic| skip)
local macro_rules | `(tactic| walk_at "s") => `(tactic| repeat walk_at "1")
local macro_rules | `(tactic| walk_at "size") => `(tactic| first | exact Nat.le_of_ble_eq_true rfl | (simp only [List.length_map, List.length_append, List.length_cons, List.length_nil]; omega))
local macro_rules | `(tactic| walk_at "new") => `(tactic| (first | refine ⟨(by walk_at "size"), fun p hp => ?_⟩ | refine fun p hp => ?_); (generalize hq : upd _ p _ = H1); (obtain ⟨s, e⟩ := new_facts hp hq); clear hq)
/-! the least form -/
structure FitsS (as : List Sti) (t m : Int) (p : Nat) : Prop where
  pos : 0 < p
  dvd : p ∣ as.length
  n1 : (t * p) % as.length = 0
  n2 : (m * p) % as.length = 0
  eq : as.drop p = (as.take (as.length - p)).map (mv (t * p / as.length) (m * p / as.length))
structure LeastP (as : List Sti) (t m : Int) (p : Nat) : Prop where
  le : p ≤ as.length
  pos : as ≠ [] → 0 < p
  fits : as ≠ [] → FitsS as t m p
  least : ∀ p', p' < p → ¬ FitsS as t m p'
theorem fitsS_whole {as : List Sti} {t m : Int} (h : as ≠ []) : FitsS as t m as.length :=
  ⟨List.length_pos_iff.mpr h, Nat.dvd_refl _, Int.mul_emod_left .., Int.mul_emod_left .., by simp⟩
theorem rd_sl {K : PySem.W.Frag} {H : Hp} {A : Addr} {xs : List V} {lo hi : Option Int} {Q : VK} (hS : SqS K H A xs) (nw : ¬ (HT.sIx xs.length 0 lo = 0 ∧ HT.sIx xs.length xs.length hi = xs.length))
    (k : ∀ p H', Same H H' → H p = none → SqS K H' p (cutV xs lo hi) → Q (.ref p) H') : rSlL K (.ref A) lo hi H Q ∨ rSlT K (.ref A) lo hi H Q := by
  rcases hS with hS | hS
  · exact Or.inl ⟨_, _, rfl, hS, fun p np => k _ _ (same_upd np) np (Or.inl (SqL.of upd_same))⟩
  · exact Or.inr ⟨_, _, rfl, hS, nw, fun p np => k _ _ (same_upd np) np (Or.inr (SqT.of upd_same))⟩
theorem cut_from {xs : List V} {t : Nat} (h : t ≤ xs.length) : cutV xs (some (t : Int)) none = xs.drop t := by
  unfold cutV
  rw [HT.sIx_nat, HT.sIx_none, Nat.min_eq_left h]
  exact List.take_of_length_le (by rw [List.length_drop]; omega)
def spLeastF (K : PySem.W.Frag) : Sp := fun vs H Q _ => ∃ (aF aA : Addr) (xf xa : List V) (fs : List Stp) (as : List Sti) (t m : Int), vs = [.ref aF, .ref aA, .int t, .int m] ∧ SqS K H aF xf ∧ DvAll H xf (fs.map stD) ∧ SqS K H aA xa ∧ DvAll H xa (as.map siD) ∧
  fs.length ≤ 1000 ∧ as.length ≤ 1000 ∧ (as = [] ∨ ∀ x ∈ fs, x.2 ≠ none) ∧ (as = [] → t = 0 ∧ m = 0) ∧
  ∀ H' r p b, Same H H' → H r = none → LeastP as t m p → ShortS (fs ++ (as.take p).map up) p (t * p / as.length) (m * p / as.length) fs.length b → Dv H' (.ref r) (formD (fs ++ (as.take p).map up) b p (t * p / as.length) (m * p / as.length)) → Q (.ref r) H'
section
variable {P : Program} {w : World} {K : PySem.W.Frag} {mg : Str → Option Value} {base : Heap}
abbrev s_least_form : Stmt := topS 32
theorem sc_least_form : FnScope ["first", "again", "turn", "more", "many", "part", "lasts", "grow"] ["first", "again", "turn", "more"] (defScope s_least_form) := ⟨rfl, rfl, rfl, by decide +kernel, rfl, by decide +kernel, by decide +kernel⟩
set_option maxHeartbeats 8000000 in
theorem ok_least_form (D : Df K mg "least_form" s_least_form ["first", "again", "turn", "more"]) (T : Txt mg) (o_moved : Own P w K mg base "_moved" 1 ["steps", "lasts", "grow"] (spMoved K))
    (o_shortest_first : Own P w K mg base "shortest_first_steps" 2 ["first", "again", "turn", "more"] (spShortS K)) : Own P w K mg base "least_form" 3 ["first", "again", "turn", "more"] (spLeastF K) := by
  refine D.own sc_least_form (fun vs H Q E h => ?_) (fun fa cdv A outer s H vs Q E hr h => ?_)
  · obtain ⟨_, _, _, _, _, _, _, _, rfl, _⟩ := h
    rfl
  · obtain ⟨aF, aA, xf, xa, fs, as, t, m, rfl, hF, hXF, hA, hXA, lf, la, hne, hz, k⟩ := h
    refine ⟨_, (pss_cons (ps_set (i := 4) sc_least_form.nd rfl (Or.inl rfl) (pe_callB call_len_seq (by rfl) T.len PySem.boot_len (pa_cons (pv 1) pa_nil)))
  (pss_cons (ps_for PassesOwn.never rfl (pi_range2 (by rfl) T.range (pa_cons pe_int (pa_cons (pv 4) pa_nil))) (pg_name (i := 5) sc_least_form.nd rfl (Or.inl rfl))
    (pss_one (ps_if (PW.pt (pw_and (pt_cmpR op_eq (pe_op op_mod (pv 4) (pv 5)) pe_int (nomark _)) (pw_and (pt_cmpR op_eq (pe_op op_mod (pe_op op_mul (pv 2) (pv 5)) (pv 4)) pe_int (nomark _)) (pw_and1 (pt_cmpR op_eq (pe_op op_mod (pe_op op_mul (pv 3) (pv 5)) (pv 4)) pe_int (nomark _))))))
        (pss_cons (ps_par (i := 6) (j := 7) (by rfl) sc_least_form.nd rfl rfl (by decide) rfl rfl (pa_cons (pe_op op_fdiv (pe_op op_mul (pv 2) (pv 5)) (pv 4)) (pa_cons (pe_op op_fdiv (pe_op op_mul (pv 3) (pv 5)) (pv 4)) pa_nil)) (by rfl))
          (pss_one (ps_if (pt_cmpR (op_eqD hr.units) (pe_callTy call_list_of (by rfl) T.list (by decide +kernel) (pa_cons (pe_slice (SlR.or sl_list sl_tup) (pv 1) (po_some (pv 5)) po_none) pa_nil)) (pe_own o_moved (hr.mono (by decide)) (pa_cons (pe_slice (SlR.or sl_list sl_tup) (pv 1) po_none (po_some (pe_op op_sub (pv 4) (pv 5)))) (pa_cons (pv 6) (pa_cons (pv 7) pa_nil)))) (nomark _))
            (pss_one (ps_ret (pe_own o_shortest_first (hr.mono (by decide)) (pa_cons (pv 0) (pa_cons (pe_slice (SlR.or sl_list sl_tup) (pv 1) po_none (po_some (pv 5))) (pa_cons (pv 6) (pa_cons (pv 7) pa_nil)))))))
            pss_nil)))
        pss_nil)))
  (pss_one (ps_ret (pe_own o_shortest_first (hr.mono (by decide)) (pa_cons (pv 0) (pa_cons (pv 1) (pa_cons (pv 2) (pa_cons (pv 3) pa_nil))))))))), ?_⟩
    have ef := hXF.len
    have ea := hXA.len
    rw [List.length_map] at ef ea
    refine ⟨_, rfl, aA, xa, rfl, hA, ?_⟩
    rw [ea]
    refine ⟨_, rfl, 1, as.length, rfl, ⟨by decide, by decide, by omega, by omega⟩, for_range (lo := 1) (n := ((as.length : Int) - 1).toNat) (fun i σ H' => ∃ y z u, σ = [some (.ref aF), some (.ref aA), some (.int t), some (.int m), some (.int (as.length : Int)), y, z, u] ∧ Same H H' ∧ ∀ p', p' < i + 1 → ¬ FitsS as t m p')
      ⟨_, _, _, rfl, Same.refl _, fun p' hp f => by have := f.pos; omega⟩ ?_ ?_⟩
    · rintro i σ H' hi ⟨y, z, u, rfl, s1, hno⟩
      have ei : (1 : Int) + (i : Int) = ((i + 1 : Nat) : Int) := by omega
      have hi1 : i + 1 < as.length := by omega
      rw [ei]
      have l0 : 0 < as.length := by omega
      have nxt : ∀ (y z u : Option V) (H3 : Hp), Same H H3 → ¬ FitsS as t m (i + 1) → ∃ y' z' u', [some (V.ref aF), some (.ref aA), some (.int t), some (.int m), some (.int (as.length : Int)), y, z, u] = [some (V.ref aF), some (.ref aA), some (.int t), some (.int m), some (.int (as.length : Int)), y', z', u'] ∧ Same H H3 ∧ ∀ p', p' < i + 1 + 1 → ¬ FitsS as t m p' := fun y z u H3 s3 h => ⟨y, z, u, rfl, s3, fun p' hp f => by
        by_cases e : p' = i + 1
        · rw [e] at f
          exact h f
        · exact hno p' (by omega) f⟩
      refine ⟨_, rfl, _, rfl, _, _, rfl, rfl, by omega, rfl, _, rfl, ?_⟩
      refine ite2 (fun c1 => ?_) (fun c1 => ?_)
      · have cm : ∀ j : Int, CMul j ((i + 1 : Nat) : Int) := fun j => Or.inr ⟨by omega, by omega⟩
        refine ⟨_, rfl, _, rfl, _, _, rfl, rfl, cm _, _, rfl, _, _, rfl, rfl, by omega, rfl, _, rfl, ?_⟩
        refine ite2 (fun c2 => ?_) (fun c2 => ?_)
        · refine ⟨_, rfl, _, rfl, _, _, rfl, rfl, cm _, _, rfl, _, _, rfl, rfl, by omega, rfl, _, rfl, ?_⟩
          refine ite2 (fun c3 => ?_) (fun c3 => ?_)
          · have hm1 : as.length % (i + 1) = 0 := by
              have := V.int.inj (of_decide_eq_true c1)
              omega
            have hm2 : (t * ((i + 1 : Nat) : Int)) % (as.length : Int) = 0 := V.int.inj (of_decide_eq_true c2)
            have hm3 : (m * ((i + 1 : Nat) : Int)) % (as.length : Int) = 0 := V.int.inj (of_decide_eq_true c3)
            refine ⟨_, rfl, _, rfl, _, _, rfl, rfl, cm _, _, rfl, _, _, rfl, rfl, ⟨by omega, by omega⟩, _, rfl, _, rfl, _, _, rfl, rfl, cm _, _, rfl, _, _, rfl, rfl, ⟨by omega, by omega⟩, _, _, rfl, ?_⟩
            obtain ⟨ls, hl⟩ : ∃ ls, t * ((i + 1 : Nat) : Int) / (as.length : Int) = ls := ⟨_, rfl⟩
            obtain ⟨gr, hg⟩ : ∃ gr, m * ((i + 1 : Nat) : Int) / (as.length : Int) = gr := ⟨_, rfl⟩
            have nw1 : ¬ (HT.sIx xa.length 0 (some ((i + 1 : Nat) : Int)) = 0 ∧ HT.sIx xa.length xa.length none = xa.length) := fun q => by
              have q1 := q.1
              rw [HT.sIx_nat] at q1
              omega
            have esub : ((as.length : Int) - ((i + 1 : Nat) : Int)) = ((as.length - (i + 1) : Nat) : Int) := by omega
            have nw2 : ¬ (HT.sIx xa.length 0 none = 0 ∧ HT.sIx xa.length xa.length (some ((as.length - (i + 1) : Nat) : Int)) = xa.length) := fun q => by
              have q1 := q.2
              rw [HT.sIx_nat] at q1
              omega
            have nw3 : ¬ (HT.sIx xa.length 0 none = 0 ∧ HT.sIx xa.length xa.length (some ((i + 1 : Nat) : Int)) = xa.length) := fun q => by
              have q1 := q.2
              rw [HT.sIx_nat] at q1
              omega
            refine ⟨_, rfl, _, rfl, _, rfl, rd_sl (s1.sqs hA) nw1 fun p2 H2 s2 n2 e2 => ?_⟩
            rw [cut_from (by omega)] at e2
            refine ⟨p2, _, rfl, e2, fun p3 n3 => ?_⟩
            generalize hq : upd H2 p3 _ = H3
            obtain ⟨s3, e3⟩ := new_facts n3 hq
            clear hq
            have s13 := s1.trans (s2.trans s3)
            refine ⟨_, rfl, _, rfl, _, rfl, _, _, rfl, rfl, _, rfl, ?_⟩
            rw [esub]
            refine rd_sl (s13.sqs hA) nw2 fun p4 H4 s4 n4 e4 => ?_
            rw [cut_to (by omega)] at e4
            have s14 := s13.trans s4
            have hX4 := hXA.same s14
            refine ⟨_, rfl, _, rfl, p4, _, as.take (as.length - (i + 1)), ls, gr, by rw [← hl, ← hg]; rfl, e4, by rw [List.map_take]; exact hX4.take _, by rw [List.length_take]; omega, fun H5 p5 ys s5 n5 e5 hY => ?_⟩
            have s15 := s14.trans s5
            have hX5 := hXA.same s15
            have d1 : Dv H5 (.ref p3) (.list ((as.drop (i + 1)).map siD)) := .lst (s5 _ _ (s4 _ _ e3)) (by rw [List.map_drop]; exact hX5.drop _) (by rw [List.length_map, List.length_drop]; omega)
            have d2 : Dv H5 (.ref p5) (.list (((as.take (as.length - (i + 1))).map (mv ls gr)).map siD)) := .lst e5 (hY.same off_same) (by rw [List.length_map, List.length_map, List.length_take]; omega)
            refine ⟨_, _, d1.dp, d2.dp, shaped_si _, shaped_si _, ?_⟩
            rw [eqv_sil]
            refine ⟨_, rfl, ?_⟩
            refine ite2 (fun c4 => ?_) (fun c4 => ?_)
            · have fit : FitsS as t m (i + 1) := ⟨by omega, Nat.dvd_of_mod_eq_zero hm1, hm2, hm3, by
                rw [hl, hg]
                exact of_decide_eq_true c4⟩
              refine ⟨_, rfl, _, rfl, _, rfl, _, rfl, ?_⟩
              refine rd_sl (s15.sqs hA) nw3 fun p6 H6 s6 n6 e6 => ?_
              rw [cut_to (by omega)] at e6
              have s16 := s15.trans s6
              have hX6 := hXA.same s16
              refine ⟨_, rfl, _, rfl, aF, p6, xf, _, fs, as.take (i + 1), ls, gr, by rw [← hl, ← hg]; rfl, s16.sqs hF, hXF.same s16, e6, by rw [List.map_take]; exact hX6.take _, lf, by rw [List.length_take]; omega, ?_, fun H7 r b s7 nr hb hd => ?_⟩
              · exact Or.inr (hne.resolve_left fun z => by rw [z] at l0; exact absurd l0 (by decide))
              · have et : (as.take (i + 1)).length = i + 1 := by rw [List.length_take]; omega
                rw [et] at hb hd
                refine k H7 r (i + 1) b (s16.trans s7) (s16.free nr) ⟨by omega, fun _ => by omega, fun _ => fit, fun p' hp => hno p' (by omega)⟩ ?_ ?_
                · rw [hl, hg]
                  exact hb
                · rw [hl, hg]
                  exact hd
            · exact nxt _ _ _ _ s15 fun f => c4 (decide_eq_true (by
                have := f.eq
                rw [hl, hg] at this
                exact this))
          · exact nxt _ _ _ _ s1 fun f => c3 (decide_eq_true (congrArg V.int f.n2))
        · refine iteF ?_
          exact nxt _ _ _ _ s1 fun f => c2 (decide_eq_true (congrArg V.int f.n1))
      · refine iteF ?_
        exact nxt _ _ _ _ s1 fun f => c1 (decide_eq_true (congrArg V.int (by have := Nat.mod_eq_zero_of_dvd f.dvd; omega)))
    · rintro σ H' ⟨y, z, u, rfl, s1, hno⟩
      have hF1 := s1.sqs hF
      have hA1 := s1.sqs hA
      refine ⟨_, rfl, _, rfl, _, rfl, _, rfl, aF, aA, xf, xa, fs, as, t, m, rfl, hF1, hXF.same s1, hA1, hXA.same s1, lf, la, hne, fun H3 r b s3 nr hb hd => ?_⟩
      have e1 : t * as.length / as.length = t := by
        by_cases h0 : as = []
        · rw [(hz h0).1, Int.zero_mul, Int.zero_ediv]
        · exact Int.mul_ediv_cancel _ (by have := List.length_pos_iff.mpr h0; omega)
      have e2 : m * as.length / as.length = m := by
        by_cases h0 : as = []
        · rw [(hz h0).2, Int.zero_mul, Int.zero_ediv]
        · exact Int.mul_ediv_cancel _ (by have := List.length_pos_iff.mpr h0; omega)
      have et : as.take as.length = as := List.take_length
      refine k H3 r as.length b (s1.trans s3) (s1.free nr) ⟨Nat.le_refl _, fun h => List.length_pos_iff.mpr h, fitsS_whole, fun p' hp => hno p' (by omega)⟩ ?_ ?_
      · rw [e1, e2, et]
        exact hb
      · rw [e1, e2, et]
        exact hd
end
end My

namespace My
open PySem PySem.Spec PyProof.Rows L2
local macro_rules | `(tactic| walk_at "side") => `(tactic| first | (dsimp only; omega) | exact ⟨by omega, by omega⟩ | exact Or.inl ⟨by omega, by omega⟩ | exact Or.inr ⟨by omega, by omega⟩ | decide)
local macro_rules | `(tactic| walk_at "sq") => `(tactic| first | assumption | exact SqL.of (by assumption) | exact SqT.of (by assumption) | (refine L2.Same.seq (by assumption) ?_; walk_at "sq") | (refine L2.Same.seqT (by assumption) ?_; walk_at "sq") | exact Or.inl (by walk_at "sq") | exact Or.inr (by walk_at "sq"))
local macro_rules | `(tactic| walk_at "1") => `(tactic| first
  | refine ⟨_, rfl, iteT ?_⟩
  | refine ⟨_, rfl, iteF ?_⟩
  | refine ⟨_, rfl, ?_⟩
  | refine ⟨_, _, rfl, rfl, (by walk_at "side"), ?_⟩
  | refine ⟨_, _, rfl, rfl, ?_⟩
  | refine ⟨_, _, _, _, true, rfl, .ty _, .base (.int _), kit_ty (a := "int") (by decide +kernel), ?_⟩
  | refine ⟨_, _, _, _, false, rfl, .ty _, .base (.int _), kit_ty (a := "int") (by decide +kernel), ?_⟩
  | refine ⟨_, _, rfl, (by walk_at "sq"), ?_⟩
  | refine ⟨_, _, _, _, rfl, rfl, (by walk_at "sq"), (by first | rfl | assumption), ?_⟩
  | refine Or.inl ⟨_, _, _, _, rfl, rfl, (by walk_at "sq"), (by first | rfl | assumption), ?_⟩
  | refine Or.inr (Or.inl ⟨_, _, _, _, rfl, rfl, (by walk_at "sq"), (by first | rfl | assumption), ?_⟩)
  | refine ⟨_, _, rfl, Or.inl ⟨(by walk_at "sq"), ?_⟩⟩
  | refine ⟨rfl, ?_⟩
  | refine iteT ?_
  | refine iteF ?_
  | refine ⟨_, _, _, _, _, rfl, (by assumption), (by assumption), (by assumption), (by assumption), ?_⟩
  | refine Or.inl ⟨_, rfl, ?_⟩
  | refine Or.inr ⟨_, rfl, ?_⟩
  | refine ⟨_, _, rfl, (by walk_at "side"), ?_⟩
  | refine ⟨_, _, rfl, ?_⟩)
local macro_rules | `(tactic| walk_at "fld") => `(tactic| skip)
local macro_rules | `(tactic| walk_at "s") => `(tactic| repeat walk_at "1")
local macro_rules | `(tactic| walk_at "size") => `(tactic| first | exact Nat.le_of_ble_eq_true rfl | (simp only [List.length_map, List.length_append, List.length_cons, List.length_nil]; omega))
local macro_rules | `(tactic| walk_at "new") => `(tactic| (first | refine ⟨(by walk_at "size"), fun p hp => ?_⟩ | refine fun p hp => ?_); (generalize hq : upd _ p _ = H1); (obtain ⟨s, e⟩ := new_facts hp hq); clear hq)
/-! what a tally tells -/
/-- n: how many steps are at a time at most -/
structure LastB (ds : List Stp) (t : Int) (n : Nat) : Prop where
  le : n ≤ ds.length
  lo : ∀ i x, i < n → ds[i]? = some x → x.1 ≤ t
  hi : ∀ i x, n ≤ i → ds[i]? = some x → t < x.1
def Asc (ds : List Stp) : Prop := ds.Pairwise fun x y => x.1 < y.1
theorem Asc.at {ds : List Stp} (h : Asc ds) {i j : Nat} {x y : Stp} (hi : ds[i]? = some x) (hj : ds[j]? = some y) (l : i ≤ j) : x.1 ≤ y.1 := by
  obtain ⟨li, rfl⟩ := List.getElem?_eq_some_iff.mp hi
  obtain ⟨lj, rfl⟩ := List.getElem?_eq_some_iff.mp hj
  by_cases e : i = j
  · subst e
    exact Int.le_refl _
  · exact Int.le_of_lt (List.pairwise_iff_getElem.mp h i j li lj (by omega))
def spLastBy : Sp := fun vs H Q _ => ∃ (a : Addr) (xs : List V) (ds : List Stp) (t : Int), vs = [.ref a, .int t] ∧ H a = some (.tup xs) ∧ DvAll H xs (ds.map stD) ∧ ds.length ≤ 2000 ∧ Asc ds ∧ ∀ n : Nat, LastB ds t n → Q (.int ((n : Int) - 1)) H
section
variable {P : Program} {w : World} {K : PySem.W.Frag} {mg : Str → Option Value} {base : Heap}
abbrev s_last_by : Stmt := topS 37
theorem sc_last_by : FnScope ["steps", "time", "low", "high", "middle"] ["steps", "time"] (defScope s_last_by) := ⟨rfl, rfl, rfl, by decide +kernel, rfl, by decide +kernel, by decide +kernel⟩
set_option maxHeartbeats 4000000 in
theorem ok_last_by (D : Df K mg "_last_by" s_last_by ["steps", "time"]) (T : Txt mg) : Own P w K mg base "_last_by" 1 ["steps", "time"] spLastBy := by
  refine D.own sc_last_by (fun vs H Q E h => ?_) (fun fa cdv A outer s H vs Q E hr h => ?_)
  · obtain ⟨_, _, _, _, rfl, _⟩ := h
    rfl
  · obtain ⟨a, xs, ds, t, rfl, ha, hX, hz, hs, k⟩ := h
    refine ⟨_, (pss_cons (ps_par (i := 2) (j := 3) (by rfl) sc_last_by.nd rfl rfl (by decide) rfl rfl (pa_cons pe_int (pa_cons (pe_callB call_len_seq (by rfl) T.len PySem.boot_len (pa_cons (pv 0) pa_nil)) pa_nil)) (by rfl))
  (pss_cons (ps_while PassesOwn.never (pt_cmpR op_lt (pv 2) (pv 3) (nomark _))
    (pss_cons (ps_set (i := 4) sc_last_by.nd rfl (Or.inl rfl) (pe_op op_fdiv (pe_op op_add (pv 2) (pv 3)) pe_int))
      (pss_one (ps_if (pt_cmpR op_le (pe_ix ix_tup (pe_ix ix_tup (pv 0) (pv 4) (fun _ _ => rfl)) pe_int (fun _ _ => rfl)) (pv 1) (nomark _))
        (pss_one (ps_set (i := 2) sc_last_by.nd rfl (Or.inl rfl) (pe_op op_add (pv 4) pe_int)))
        (pss_one (ps_set (i := 3) sc_last_by.nd rfl (Or.inl rfl) (pv 4)))))))
  (pss_one (ps_ret (pe_op op_sub (pv 2) pe_int))))), ?_⟩
    have hl := hX.len
    rw [List.length_map] at hl
    refine ⟨_, rfl, a, xs, rfl, Or.inr (SqT.of ha), _, _, rfl, ?_⟩
    refine ⟨fun m σ H' => ∃ (lo hi : Nat) (y : Option V), m = hi - lo ∧ σ = [some (.ref a), some (.int t), some (.int (lo : Nat)), some (.int (hi : Nat)), y] ∧ H' = H ∧ lo ≤ hi ∧ hi ≤ ds.length ∧ (∀ i x, i < lo → ds[i]? = some x → x.1 ≤ t) ∧ (∀ i x, hi ≤ i → ds[i]? = some x → t < x.1),
      ⟨_, 0, xs.length, none, rfl, rfl, rfl, Nat.zero_le _, by omega, fun i x h _ => absurd h (by omega), fun i x h e => absurd (List.getElem?_eq_some_iff.mp e).1 (by omega)⟩, ?_⟩
    rintro m σ H' ⟨lo, hi, y, rfl, rfl, rfl, h1, h2, h3, h4⟩
    refine ⟨_, rfl, _, rfl, _, _, rfl, rfl, _, rfl, ?_⟩
    refine ite2 (fun c => ?_) (fun c => ?_)
    · have c' : lo < hi := by
        have := of_decide_eq_true c
        omega
      have em : ((lo : Int) + (hi : Int)) / 2 = (((lo + hi) / 2 : Nat) : Int) := by omega
      have lm : (lo + hi) / 2 < ds.length := by omega
      have el : ds[(lo + hi) / 2]? = some ds[(lo + hi) / 2] := List.getElem?_eq_getElem lm
      obtain ⟨v, hv, dv⟩ := hX.at (i := (lo + hi) / 2) (d := stD ds[(lo + hi) / 2]) (by rw [List.getElem?_map, el]; rfl)
      obtain ⟨q, rfl, eq⟩ := dv_pr (x := prO ds[(lo + hi) / 2]) dv
      refine ⟨fun σ' H'' => ∃ (lo' hi' : Nat) (y' : Option V), hi' - lo' < hi - lo ∧ σ' = [some (.ref a), some (.int t), some (.int (lo' : Nat)), some (.int (hi' : Nat)), y'] ∧ H'' = H' ∧ lo' ≤ hi' ∧ hi' ≤ ds.length ∧ (∀ i x, i < lo' → ds[i]? = some x → x.1 ≤ t) ∧ (∀ i x, hi' ≤ i → ds[i]? = some x → t < x.1),
        fun σ' H'' ⟨lo', hi', y', l, r⟩ => ⟨_, l, lo', hi', y', rfl, r⟩, ?_⟩
      refine ⟨_, rfl, _, rfl, _, _, rfl, rfl, _, _, rfl, rfl, ⟨by decide, by decide⟩, ?_⟩
      refine ⟨_, rfl, _, rfl, _, _, _, _, rfl, rfl, SqT.of ha, at_of em hv, _, _, _, _, rfl, rfl, SqT.of eq, rfl, _, rfl, _, _, rfl, rfl, _, rfl, ?_⟩
      refine ite2 (fun c2 => ?_) (fun c2 => ?_)
      · have c2 : (ds[(lo + hi) / 2]).1 ≤ t := of_decide_eq_true c2
        refine ⟨_, rfl, _, _, rfl, rfl, (lo + hi) / 2 + 1, hi, some (.int (((lo + hi) / 2 : Nat) : Int)), by omega, ?_, rfl, by omega, h2, fun i x hi' ex => Int.le_trans (hs.at ex el (by omega)) c2, h4⟩
        show [some (V.ref a), some (V.int t), some (V.int (((lo : Int) + (hi : Int)) / 2 + 1)), some (V.int (hi : Nat)), some (V.int (((lo : Int) + (hi : Int)) / 2))] = _
        rw [em]
        rfl
      · have c2 : ¬ (ds[(lo + hi) / 2]).1 ≤ t := fun q => c2 (decide_eq_true q)
        refine ⟨_, rfl, lo, (lo + hi) / 2, some (.int (((lo + hi) / 2 : Nat) : Int)), by omega, ?_, rfl, by omega, by omega, h3, fun i x hi' ex => Int.lt_of_lt_of_le (by omega) (hs.at el ex hi')⟩
        show [some (V.ref a), some (V.int t), some (V.int (lo : Nat)), some (V.int (((lo : Int) + (hi : Int)) / 2)), some (V.int (((lo : Int) + (hi : Int)) / 2))] = _
        rw [em]
    · have c' : ¬ lo < hi := fun q => c (decide_eq_true (by omega))
      have e : lo = hi := by omega
      subst e
      exact ⟨_, rfl, _, _, rfl, rfl, k lo ⟨h2, h3, h4⟩⟩
end
end My

namespace My
open PySem PySem.Spec PyProof.Rows L2
local macro_rules | `(tactic| walk_at "side") => `(tactic| first | (dsimp only; omega) | exact ⟨by omega, by omega⟩ | exact Or.inl ⟨by omega, by omega⟩ | exact Or.inr ⟨by omega, by omega⟩ | decide)
local macro_rules | `(tactic| walk_at "sq") => `(tactic| first | assumption | exact SqL.of (by assumption) | exact SqT.of (by assumption) | (refine L2.Same.seq (by assumption) ?_; walk_at "sq") | (refine L2.Same.seqT (by assumption) ?_; walk_at "sq") | exact Or.inl (by walk_at "sq") | exact Or.inr (by walk_at "sq"))
local macro_rules | `(tactic| walk_at "1") => `(tactic| first
  | refine ⟨_, rfl, iteT ?_⟩
  | refine ⟨_, rfl, iteF ?_⟩
  | refine ⟨_, rfl, ?_⟩
  | refine ⟨_, _, rfl, rfl, (by walk_at "side"), ?_⟩
  | refine ⟨_, _, rfl, rfl, ?_⟩
  | refine ⟨_, _, _, _, true, rfl, .ty _, .base (.int _), kit_ty (a := "int") (by decide +kernel), ?_⟩
  | refine ⟨_, _, _, _, false, rfl, .ty _, .base (.int _), kit_ty (a := "int") (by decide +kernel), ?_⟩
  | refine ⟨_, _, rfl, (by walk_at "sq"), ?_⟩
  | refine ⟨_, _, _, _, rfl, rfl, (by walk_at "sq"), (by first | rfl | assumption), ?_⟩
  | refine Or.inl ⟨_, _, _, _, rfl, rfl, (by walk_at "sq"), (by first | rfl | assumption), ?_⟩
  | refine Or.inr (Or.inl ⟨_, _, _, _, rfl, rfl, (by walk_at "sq"), (by first | rfl | assumption), ?_⟩)
  | refine ⟨_, _, rfl, Or.inl ⟨(by walk_at "sq"), ?_⟩⟩
  | refine ⟨rfl, ?_⟩
  | refine iteT ?_
  | refine iteF ?_
  | refine ⟨_, _, _, _, _, rfl, (by assumption), (by assumption), (by assumption), (by assumption), ?_⟩
  | refine Or.inl ⟨_, rfl, ?_⟩
  | refine Or.inr ⟨_, rfl, ?_⟩
  | refine ⟨_, _, rfl, (by walk_at "side"), ?_⟩
  | refine ⟨_, _, rfl, ?_⟩)
local macro_rules | `(tactic| walk_at "fld") => `(tactic| skip)
local macro_rules | `(tactic| walk_at "s") => `(tactic| repeat walk_at "1")
local macro_rules | `(tactic| walk_at "size") => `(tactic| first | exact Nat.le_of_ble_eq_true rfl | (simp only [List.length_map, List.length_append, List.length_cons, List.length_nil]; omega))
local macro_rules | `(tactic| walk_at "new") => `(tactic| (first | refine ⟨(by walk_at "size"), fun p hp => ?_⟩ | refine fun p hp => ?_); (generalize hq : upd _ p _ = H1); (obtain ⟨s, e⟩ := new_facts hp hq); clear hq)
/-! tallies -/
def talF (u : Option Int) (pf pa : Addr) (t m : Int) : List (Str × V) := [("under", cV u), ("first", .ref pf), ("again", .ref pa), ("turn", .int t), ("more", .int m)]
/-- the object at p is a tally with these parts -/
def TalAt (C : Addr) (H : Hp) (p : Addr) (u : Option Int) (f : List Stp) (a : List Sti) (t m : Int) : Prop :=
  ∃ dx pf pa xf xa, H p = some (.ins C dx (talF u pf pa t m)) ∧ H pf = some (.tup xf) ∧ DvAll H xf (f.map stD) ∧ H pa = some (.tup xa) ∧ DvAll H xa (a.map siD)
theorem TalAt.same {C : Addr} {H H' : Hp} {p : Addr} {u : Option Int} {f : List Stp} {a : List Sti} {t m : Int} (h : TalAt C H p u f a t m) (s : Same H H') : TalAt C H' p u f a t m := by
  obtain ⟨dx, pf, pa, xf, xa, h1, h2, h3, h4, h5⟩ := h
  exact ⟨dx, pf, pa, xf, xa, s _ _ h1, s _ _ h2, h3.same s, s _ _ h4, h5.same s⟩
structure TalCls (K : PySem.W.Frag) (C : Addr) : Prop where
  cl : Cls K C
  nU : NoAttr K C "under"
  nF : NoAttr K C "first"
  nA : NoAttr K C "again"
  nT : NoAttr K C "turn"
  nM : NoAttr K C "more"
/-- what is asked of a tally's parts -/
structure PartsT (f : List Stp) (a : List Sti) (t m : Int) : Prop where
  lf : f.length ≤ 1000
  la : a.length ≤ 1000
  sf : Asc f
  sa : Asc (a.map up)
  t0 : a ≠ [] → 0 < t
  t1 : t < 1000000
  m0 : 0 ≤ m
  m1 : m < 1000000
/-- what a tally tells at a time -/
inductive ToldT (u : Option Int) (f : List Stp) (a : List Sti) (t m : Int) (time : Int) : Option Int → Prop
  | rep (x y : Sti) (n : Nat) (h : a.head? = some x) (l : x.1 ≤ time) (e : LastB (a.map up) (x.1 + (time - x.1) % t) (n + 1)) (g : a[n]? = some y) : ToldT u f a t m time (some (y.2 + (time - x.1) / t * m))
  | none (h : ∀ x, a.head? = some x → time < x.1) (e : LastB f time 0) : ToldT u f a t m time u
  | some (y : Stp) (n : Nat) (h : ∀ x, a.head? = some x → time < x.1) (e : LastB f time (n + 1)) (g : f[n]? = some y) : ToldT u f a t m time y.2
def spTold (C : Addr) : Sp := fun vs H Q _ => ∃ (p : Addr) (u : Option Int) (f : List Stp) (a : List Sti) (t m time : Int), vs = [.ref p, .int time] ∧ TalAt C H p u f a t m ∧ PartsT f a t m ∧ ∀ H' v, Same H H' → ToldT u f a t m time v → Q (cV v) H'
section
variable {P : Program} {w : World} {K : PySem.W.Frag} {mg : Str → Option Value} {base : Heap} {C : Addr}
abbrev s_told_by : Stmt := topS 36
theorem sc_told_by : FnScope ["steps", "time", "turns", "rest", "at"] ["steps", "time"] (defScope s_told_by) := ⟨rfl, rfl, rfl, by decide +kernel, rfl, by decide +kernel, by decide +kernel⟩
set_option maxHeartbeats 8000000 in
theorem ok_told_by (D : Df K mg "told_by" s_told_by ["steps", "time"]) (T : Txt mg) (R : TalCls K C) (o_last_by : Own P w K mg base "_last_by" 1 ["steps", "time"] spLastBy) : Own P w K mg base "told_by" 2 ["steps", "time"] (spTold C) := by
  refine D.own sc_told_by (fun vs H Q E h => ?_) (fun fa cdv A outer s H vs Q E hr h => ?_)
  · obtain ⟨_, _, _, _, _, _, _, rfl, _⟩ := h
    rfl
  · obtain ⟨p, u, f, a, t, m, time, rfl, ⟨dx, pf, pa, xf, xa, h1, h2, h3, h4, h5⟩, ok, k⟩ := h
    refine ⟨_, (pss_cons (ps_if (PW.pt (pw_and (pt_cmpR op_gt (pe_callB call_len_seq (by rfl) T.len PySem.boot_len (pa_cons (pe_fld (pv 0) rfl) pa_nil)) pe_int (nomark _)) (pw_and1 (pt_cmpR op_ge (pv 1) (pe_ix ix_tup (pe_ix ix_tup (pe_fld (pv 0) rfl) pe_int (fun _ _ => rfl)) pe_int (fun _ _ => rfl)) (nomark _)))))
    (pss_cons (ps_asg (pe_callB call_divmod (by rfl) T.divmod (by decide +kernel) (pa_cons (pe_op op_sub (pv 1) (pe_ix ix_tup (pe_ix ix_tup (pe_fld (pv 0) rfl) pe_int (fun _ _ => rfl)) pe_int (fun _ _ => rfl))) (pa_cons (pe_fld (pv 0) rfl) pa_nil))) (pg_tup (by rfl) (pgs_cons (pg_name (i := 2) sc_told_by.nd rfl (Or.inl rfl)) (pgs_cons (pg_name (i := 3) sc_told_by.nd rfl (Or.inl rfl)) pgs_nil))))
      (pss_cons (ps_set (i := 4) sc_told_by.nd rfl (Or.inl rfl) (pe_own o_last_by (hr.mono (by decide)) (pa_cons (pe_fld (pv 0) rfl) (pa_cons (pe_op op_add (pe_ix ix_tup (pe_ix ix_tup (pe_fld (pv 0) rfl) pe_int (fun _ _ => rfl)) pe_int (fun _ _ => rfl)) (pv 3)) pa_nil))))
      (pss_one (ps_ret (pe_op op_add (pe_ix ix_tup (pe_ix ix_tup (pe_fld (pv 0) rfl) (pv 4) (fun _ _ => rfl)) pe_int (fun _ _ => rfl)) (pe_op op_mul (pv 2) (pe_fld (pv 0) rfl)))))))
    pss_nil)
  (pss_cons (ps_set (i := 4) sc_told_by.nd rfl (Or.inl rfl) (pe_own o_last_by (hr.mono (by decide)) (pa_cons (pe_fld (pv 0) rfl) (pa_cons (pv 1) pa_nil))))
  (pss_one (ps_ret (pe_ifExp (pt_cmpR op_lt (pv 4) pe_int (nomark _)) (pe_fld (pv 0) rfl) (pe_ix ix_tup (pe_ix ix_tup (pe_fld (pv 0) rfl) (pv 4) (fun _ _ => rfl)) pe_int (fun _ _ => rfl))))))), ?_⟩
    have la := h5.len
    have lf := h3.len
    rw [List.length_map] at la lf
    have ltu : (talF u pf pa t m).lookup ("under" : Str) = some (cV u) := rfl
    have ltf : (talF u pf pa t m).lookup ("first" : Str) = some (.ref pf) := rfl
    have lta : (talF u pf pa t m).lookup ("again" : Str) = some (.ref pa) := rfl
    have ltt : (talF u pf pa t m).lookup ("turn" : Str) = some (.int t) := rfl
    have ltm : (talF u pf pa t m).lookup ("more" : Str) = some (.int m) := rfl
    suffices rest : (∀ x, a.head? = some x → time < x.1) → _ by
      refine ⟨_, rfl, p, C, dx, _, _, rfl, h1, R.cl, R.nA, lta, pa, xa, rfl, Or.inr (SqT.of h4), _, _, rfl, rfl, _, rfl, ?_⟩
      rw [la]
      cases a with
      | nil =>
        refine iteF ?_
        refine iteF ?_
        exact rest (fun x hx => nomatch hx)
      | cons x r =>
        rw [decide_eq_true (by rw [List.length_cons]; omega)]
        refine iteT ?_
        obtain ⟨v, ys, rfl, dv, _⟩ := DvAll.inv (d := siD x) (ds := r.map siD) h5
        obtain ⟨q, rfl, eq⟩ := dv_si dv
        refine ⟨_, rfl, _, rfl, p, C, dx, _, _, rfl, h1, R.cl, R.nA, lta, _, _, _, _, rfl, rfl, SqT.of h4, atI_nat (j := 0) rfl, _, _, _, _, rfl, rfl, SqT.of eq, rfl, _, _, rfl, rfl, _, rfl, ?_⟩
        refine ite2 (fun c => ?_) (fun c => ?_)
        · have c' : x.1 ≤ time := of_decide_eq_true c
          have t0 := ok.t0 (by simp)
          have t1 := ok.t1
          refine ⟨_, rfl, _, rfl, p, C, dx, _, _, rfl, h1, R.cl, R.nA, lta, _, _, _, _, rfl, rfl, SqT.of h4, atI_nat (j := 0) rfl, _, _, _, _, rfl, rfl, SqT.of eq, rfl, _, _, rfl, rfl, _, rfl, p, C, dx, _, _, rfl, h1, R.cl, R.nT, ltt, _, _, rfl, ⟨t0, by omega⟩, fun p1 n1 => ?_⟩
          generalize hq : upd H p1 _ = H1
          obtain ⟨s1, e1⟩ := new_facts n1 hq
          clear hq
          have h1' := s1 _ _ h1
          have h4' := s1 _ _ h4
          have eq' := s1 _ _ eq
          have h5' := h5.same s1
          have em := Int.emod_nonneg (time - x.1) (by omega : t ≠ 0)
          refine ⟨p1, _, rfl, SqT.of e1, rfl, _, _, rfl, _, _, rfl, rfl, ?_⟩
          refine ⟨_, rfl, p, C, dx, _, _, rfl, h1', R.cl, R.nA, lta, _, rfl, p, C, dx, _, _, rfl, h1', R.cl, R.nA, lta, _, _, _, _, rfl, rfl, SqT.of h4', atI_nat (j := 0) rfl, _, _, _, _, rfl, rfl, SqT.of eq', rfl, _, rfl, _, _, rfl, rfl, pa, _, (x :: r).map up, _, rfl, h4', by rw [List.map_map]; exact h5', by rw [List.length_map]; have := ok.la; omega, ok.sa, fun n hn => ?_⟩
          cases n with
          | zero =>
            have := hn.hi 0 (up x) (Nat.le_refl _) rfl
            have this : x.1 + (time - x.1) % t < x.1 := this
            omega
          | succ n =>
            have lr : n < (x :: r).length := by
              have := hn.le
              rw [List.length_map] at this
              omega
            have el : (x :: r)[n]? = some (x :: r)[n] := List.getElem?_eq_getElem lr
            obtain ⟨v, hv, dv2⟩ := h5'.at (i := n) (d := siD (x :: r)[n]) (by rw [List.getElem?_map, el]; rfl)
            obtain ⟨q2, rfl, eq2⟩ := dv_si dv2
            have m0 := ok.m0
            have m1 := ok.m1
            refine ⟨_, rfl, p, C, dx, _, _, rfl, h1', R.cl, R.nA, lta, _, rfl, _, _, _, _, rfl, rfl, SqT.of h4', at_of (by omega) hv, _, _, _, _, rfl, rfl, SqT.of eq2, rfl, _, rfl, _, rfl, p, C, dx, _, _, rfl, h1', R.cl, R.nM, ltm, _, _, rfl, rfl, Or.inr ⟨by omega, by omega⟩, _, _, rfl, rfl, ?_⟩
            exact k _ _ s1 (.rep x _ n rfl c' hn el)
        · exact rest (fun x' hx => by
            cases hx
            have : ¬ x.1 ≤ time := fun q => c (decide_eq_true q)
            omega)
    intro hlt
    refine ⟨_, rfl, p, C, dx, _, _, rfl, h1, R.cl, R.nF, ltf, _, rfl, pf, xf, f, time, rfl, h2, h3, by have := ok.lf; omega, ok.sf, fun n hn => ?_⟩
    refine ⟨_, rfl, _, _, rfl, rfl, _, rfl, ?_⟩
    cases n with
    | zero =>
      refine iteT ?_
      exact ⟨_, rfl, p, C, dx, _, _, rfl, h1, R.cl, R.nU, ltu, k _ _ (Same.refl _) (.none hlt hn)⟩
    | succ n =>
      rw [decide_eq_false (by omega)]
      refine iteF ?_
      have el : f[n]? = some (f[n]'(by have := hn.le; omega)) := List.getElem?_eq_getElem _
      obtain ⟨v, hv, dv⟩ := h3.at (i := n) (d := stD _) (by rw [List.getElem?_map, el]; rfl)
      obtain ⟨q, rfl, eq⟩ := dv_pr (x := prO _) dv
      refine ⟨_, rfl, p, C, dx, _, _, rfl, h1, R.cl, R.nF, ltf, _, rfl, _, _, _, _, rfl, rfl, SqT.of h2, at_of (by omega) hv, _, _, _, _, rfl, rfl, SqT.of eq, rfl, ?_⟩
      exact k _ _ (Same.refl _) (.some _ n hlt hn el)
end
end My

namespace My
open PySem PySem.Spec PyProof.Rows L2
/-! ## list.count of a text; a staticmethod called on its class; defs that raise -/
section
variable {X : Cx}
theorem countU {z : Str} : ∀ {us : List Value} {ws : List Str}, Vals (ws.map V.str) us → us.countP (eqU (.str z)) = ws.countP (fun y => decide (y = z))
  | _, [], .nil => rfl
  | _, w :: ws, .cons r h => by
    have ih := countU (z := z) h
    rw [List.countP_cons, List.countP_cons, ih, eqU_of r rfl]
    have : eqV (.str w) (.str z) = decide (w = z) := by
      show (w == z) = decide (w = z)
      by_cases e : w = z
      · rw [e, decide_eq_true rfl]; exact beq_self_eq_true z
      · rw [decide_eq_false e]; exact beq_eq_false_iff_ne.mpr e
    rw [this]
theorem flat_strs : ∀ ws : List Str, (ws.map V.str).all flatV = true
  | [] => rfl
  | w :: ws => by
    rw [List.map_cons, List.all_cons, flat_strs ws]
    rfl
def rCntS (K : PySem.W.Frag) : V → List V → Hp → VK → Prop := fun x xs H Q => ∃ (p : Addr) (ws : List Str) (z : Str), x = .ref p ∧ xs = [.str z] ∧ SqL K H p (ws.map V.str) ∧ Q (.int (ws.countP fun y => decide (y = z) : Nat)) H
theorem mt_scount : MtR X "list.count" (rCntS X.K) := by
  intro pins s σ H x xs v us Q I rx rxs h
  obtain ⟨p, ns, k, rfl, rfl, hs, q⟩ := h
  cases rx
  obtain ⟨u, rfl, ru⟩ := rxs.one
  obtain ⟨its, rv, ⟨⟨cls, dd, data, sl⟩, n, ho, hc, hdn, hd⟩, hlen⟩ := I.list hs
  simp only at hc hd
  subst hc hd
  refine call_meets PySem.F.slot_list_count ⟨_, ho, rfl⟩ PySem.F.entry_list_count (PySem.F.args_list_count_2 _ _)
    (SeqAt.list_countAt p its.toArray n dd sl u (eqU (.str k))) ⟨ho, fun y hy => mem_eqAt ru rfl rv (flat_strs ns) y (by simpa using hy), ?_⟩
  have ec : its.toArray.toList.countP (eqU (.str k)) = ns.countP (fun y => decide (y = k)) := countU rv
  refine ⟨.int (ns.countP fun y => decide (y = k) : Nat), H, I.tok _, ⟨s.toks, ?_⟩, q⟩
  show Value.int ((its.toArray.toList.countP (eqU (.str k)) : Nat) : Int) s.toks = Value.int ((ns.countP fun y => decide (y = k) : Nat) : Int) s.toks
  rw [ec]
end
/-- m is a staticmethod of the class C: its record at p, its def at f -/
structure SMet (K : PySem.W.Frag) (C : Addr) (m : Str) (p f : Addr) : Prop where
  rd : PySem.W.readsIn K C (.type "type") = true
  ga : PySem.W.specialIn K (.ref C) "__getattribute__" = some (some (.builtin "type.__getattribute__"))
  at_ : PySem.W.findCls K (.ref C) (.type "type") m = some (.get (.builtin "staticmethod.__get__") (.ref p) .none (.ref C))
  rc : ∃ rest, PySem.W.recIn K p "staticmethod" = some (.ref f :: rest)
  kp : PySem.W.keepIn K (.ref f) = true
def tSMeth (C : Addr) (sp : Sp) (E : L2.St → XK) (ta : TE) (t : TA) : TE := fun σ H Q => ta σ H fun x H1 => x = .ref C ∧ t σ H1 fun vs H2 => sp vs H2 Q (E σ)
section
variable {X : Cx} {CX : CXT} {k : Nat} {f C p : Addr} {fd : FuncData} {ps : List Str} {sp : Sp} {E : L2.St → XK} {x m : Str} {pos apos : Pos} {e o : Expr} {es : List Expr} {ta : TE} {t : TA} {pl : Sem Bool}
theorem pe_smeth (he : PE X o ta) (c : SMet X.K C m p f) (F : FnOk X.prog X.w X.K X.mg X.base CX k f fd ps sp) (hr : Room k X.A) (hb : Binds X.K fd ps []) (hx : ∀ σ, PassesAt CX X σ (E σ)) (ha : PA X (e :: es) t)
    (hst : starEach (e :: es) X.env = (false, eval e X.env) :: starEach es X.env := by rfl) (hpl : (backTo pos (starEach es X.env)).any (·.1) = false := by rfl)
    (ht : eval (.Call (.Attribute o m apos) (e :: es) [] pos) X.env = (do
      let ov ← eval o X.env
      standAt apos.atName
      let (f, first) ← holding [ov] (getMethod ov m pl)
      callWith pos f first (backTo pos (starEach (e :: es) X.env)) (backToKw pos (keywordEach [] X.env))) := by rfl) :
    PE X (.Call (.Attribute o m apos) (e :: es) [] pos) (tSMeth C sp E ta t) := by
  refine ⟨fun pins s σ H Q I h => ?_⟩
  refine PySem.W.methodCall_KW (pl := pl) (thn (he.run pins s σ H _ I h) fun u s1 ⟨x, H1, I1, rx, ex, q⟩ => ?_) ht
  subst ex
  obtain rfl : u = Value.ref C := rx
  obtain ⟨rest, hp⟩ := c.rc
  refine PySem.W.method_cls I1.kIn c.ga (PySem.W.cls_bind I1.kIn c.rd c.at_ (wpAny_call (PySem.W.sm_get (s := { s1 with toks := s1.toks + 1 }) I1.kIn hp (PySem.W.handed_on rfl ?_))))
  have I2 := I1.tok (s1.toks + 1)
  refine PySem.W.callWith_K (h₀ := X.base) I2.ok.mod.kin c.kp (thn (ha.run pos pins _ σ H1 _ I2 q) fun us s3 ⟨vs, H2, I3, r, q2⟩ => ⟨I3.kIn, ?_⟩) hst hpl
  exact run_fnS F hr hb (hx σ) I3 r q2
end
/-! ### defs that raise -/
section
variable {P : Program} {w : World} {K : PySem.W.Frag} {mg : Str → Option Value} {base : Heap}
/-- the module's name x is a def that keeps a promise, and lets out what it tells -/
structure OwnX (P : Program) (w : World) (K : PySem.W.Frag) (mg : Str → Option Value) (base : Heap) (x : Str) (k : Nat) (ps : List Str) (sp : Sp) : Prop where
  ex : ∃ f fd, FnOk P w K mg base (L2.CX P w) k f fd ps sp ∧ mg x = some (.ref f) ∧ PySem.W.keepIn K (.ref f) = true ∧ Binds K fd ps []
theorem Df.ownX {x : Str} {st : Stmt} {ps N : List Str} {k : Nat} {sp : Sp} (D : Df K mg x st ps) (S : FnScope N ps (defScope st)) (len : ∀ vs H Q E, sp vs H Q E → vs.length = ps.length)
    (hbody : ∀ (f : Addr) (cdv : Value) (A : Around) (outer : List Env) (s : Shared) (H : Hp) (vs : List V) (Q : VK) (E : XK), Room k (A.deeper (envOfC x (defScope st) s.heap.objs.size f cdv)) → sp vs H Q E →
      ∃ t, PSs (cxOf (L2.CX P w) P w K mg base N x (defScope st) f cdv A outer s H E) (defBody st) t ∧ t { nx := fun _ H' => Q .non H', rt := Q } (start N vs) H) : OwnX P w K mg base x (k + 1) ps sp := by
  obtain ⟨f, fd, F, m, b⟩ := D.ex
  exact ⟨f, fd, F.okX S len (hbody f), m, F.kp, b⟩
end
section
variable {X : Cx} {x : Str} {p pos : Pos} {e : Expr} {es : List Expr} {t : TA} {k : Nat} {ps : List Str} {sp : Sp} {W : WX}
theorem pe_ownX (O : OwnX X.prog X.w X.K X.mg X.base x k ps sp) (hr : Room k X.A) (tk : Takes X W) (ha : PA X (e :: es) t) (hg : Gl X x := by exact rfl) (hdb : (x == ("__debug__" : Str)) = false := by decide)
    (he : starEach (e :: es) X.env = (false, eval e X.env) :: starEach es X.env := by rfl) (hpl : (backTo pos (starEach es X.env)).any (·.1) = false := by rfl) : PE X (.Call (.Name x p) (e :: es) [] pos) (tCallS sp (WE W) t) := by
  obtain ⟨f, fd, G, hm, hk, hb⟩ := O.ex
  exact pe_callS G hr hg hm hk hb (fun σ => passAt tk σ) ha hdb he hpl
end
end My

/-! several except clauses, each with a name for the error or without one -/
namespace My
open PySem PySem.Spec PyProof.Rows L2
/-- behind a suite whose error has a name: slot i is emptied -/
def endsAs (D : Ends) (i : Nat) : Ends := { nx := fun σ' H' => D.nx (σ'.set i none) H', rt := D.rt, bk := fun σ' H' => D.bk (σ'.set i none) H', ct := fun σ' H' => D.ct (σ'.set i none) H' }
/-- a clause: its class, the slot of its name, its suite -/
structure Clause where
  cls : Value
  slot : Option Nat
  ts : Addr → Value → Option Addr → TS
def Clause.wish (k : Clause) (D : Ends) (a : Addr) (cls : Value) (d : Option Addr) (σ : L2.St) (H : Hp) : Prop := match k.slot with
  | none => k.ts a cls d D σ H
  | some i => k.ts a cls d (endsAs D i) (σ.set i (some (.ref a))) H
def wCls (K : PySem.W.Frag) (Wout : WX) (D : Ends) : List Clause → WX
  | [] => Wout
  | k :: r => fun cls d σ H => ∃ b, PySem.W.exmOne K cls k.cls = some b ∧ (b = true → ∀ a, H a = none → k.wish D a cls d σ H) ∧ (b = false → wCls K Wout D r cls d σ H)
/-- the handler is the clause -/
structure IsClause (X : Cx) (h : ExceptHandler) (k : Clause) : Prop where
  ex : ∃ (x : Str) (np pos' : Pos) (b₀ : Stmt) (suite : List Stmt) (on : Option Str), h = .ExceptHandler (some (.Name x np)) on (b₀ :: suite) pos' ∧ Names X x k.cls ∧
    (∀ (a : Addr) (oe : Obj) (cls : Value) (d : Option Addr) (pn : List (Addr × Obj)), Zc cls d oe → (∃ vs, oe.data = .fields vs) → PSs (X.suite a ((a, oe) :: pn)) (b₀ :: suite) (k.ts a cls d)) ∧
    ((on = none ∧ k.slot = none) ∨ ∃ n i, on = some n ∧ k.slot = some i ∧ X.N[i]? = some n ∧ X.env.kindOf n = some .local)
inductive AreClauses (X : Cx) : List ExceptHandler → List Clause → Prop
  | nil : AreClauses X [] []
  | cons {h : ExceptHandler} {k : Clause} {hs : List ExceptHandler} {ks : List Clause} : IsClause X h k → AreClauses X hs ks → AreClauses X (h :: hs) (k :: ks)
section
variable {X : Cx} {body : List Stmt} {h₀ : ExceptHandler} {hds : List ExceptHandler} {ks : List Clause} {pos : Pos} {tb : WX → TS} {Wout : WX}
theorem ps_try_cls (hst : X.stack = X.env :: X.outer) (hfr : X.env.frame = some X.env.locals) (hN : X.N.Nodup) (tk : Takes X Wout)
    (hb : ∀ (W : WX) (pn : List (Addr × Obj)) (xe : Value → Shared → Prop), Takes (X.tr pn xe) W → PassesOwn (model X.prog X.w) X.A X.env xe → PSs (X.tr pn xe) body (tb W))
    (hk : AreClauses X (h₀ :: hds) ks) : PS X (.Try body (h₀ :: hds) [] [] pos) (fun D σ H => tb (wCls X.K Wout D ks) D σ H) := by
  refine ⟨fun pins s σ H D I h => ?_⟩
  have ok := I.ok
  have frames : X.A.frames = some (X.env :: X.outer) := ok.frames.trans (congrArg some hst)
  let W := wCls X.K Wout D ks
  let xe := fun e s₁ => wpAny (model X.prog X.w) X.A (noteFrame e X.env) (fun _ s₂ => wpAny (model X.prog X.w) X.A (setFlight e none) (fun _ s₃ => wpAny (model X.prog X.w) X.A (handleBy e X.env (h₀ :: hds)) (SP X pins D) X.xe s₃) X.xe s₂) X.xe s₁
  refine wpAny_Try_except (wpAny_mono ((hb W (X.pn ++ pins) xe (fun u s' caught => ?_) PassesOwn.looking).run [] s σ H D (I.toTry _) h) (fun f s1 end_ => ?_) fun _ _ z => z)
  · obtain ⟨a, B, sI, _, σ', H', cls, d, rfl, Jt, nb, up, sky, na, os, ag, w⟩ := caught
    have J : Inv X pins σ' H' sI := Jt.ofTry ok
    show wpAny _ X.A (noteFrame (.ref a) X.env) _ _ _
    refine Sky.land Zc.steady frames hfr (hst ▸ sky) fun h3 fl3 up3 => ?_
    have J3 : Inv X pins σ' H' { s' with heap := h3 } := J.landed nb fl3.1 (up.trans up3) os ag
    obtain ⟨o3, v3, at3, zc3, data3⟩ := fl3.there
    have nfr : a ∉ frs (X.env :: X.outer) := fun hm => by
      obtain ⟨_, o', e', hnf⟩ := fl3.2.2.1.mem hm
      cases at3.symm.trans e'
      exact hnf _ data3
    have nL : a ≠ X.env.locals := fun z => nfr (List.mem_filterMap.mpr ⟨X.env, List.mem_cons_self, hfr.trans (congrArg some z.symm)⟩)
    have nF : a ∉ X.fs := fun hm => let ⟨e, he, q⟩ := List.mem_filterMap.mp hm
      nfr (List.mem_filterMap.mpr ⟨e, List.mem_cons_of_mem _ he, q⟩)
    have S3 := J3.suite at3 data3 na nL nF
    have kind : PySem.W.Looks (model X.prog X.w) h3 (typeOf (.ref a)) cls := fun _ _ _ _ q z => wpAny_typeOf_ref (q _ _ at3) (by rw [zc3.1]; exact z)
    have go : ∀ {hs' : List ExceptHandler} {ks' : List Clause}, AreClauses X hs' ks' → wCls X.K Wout D ks' cls d σ' H' → wpAny (model X.prog X.w) X.A (handleBy (.ref a) X.env hs') (SP X pins D) X.xe { s' with heap := h3 } := by
      intro hs' ks' ac
      induction ac with
      | nil =>
        intro w
        refine wpAny_handleBy_nil ?_
        obtain ⟨_, _, _, oe, vs, T, oT, _, he, _, hd, h1, _⟩ := id fl3
        unfold PySem.passOn
        refine wpAny_bind (wpAny_field he hd h1 ?_)
        rw [if_neg (show ¬ ((Value.ref T == Value.none) = true) from by simp)]
        have onward : wpAny (model X.prog X.w) X.A (setFlight (.ref a) X.env.frame) (fun _ s4 => wpAny (model X.prog X.w) X.A (throw (.ref a) : Sem Flow) (SP X pins D) X.xe s4) X.xe { s' with heap := h3 } := by
          rw [hfr]
          exact HandSPX.setFlight_upZ fl3 fun h4 hh4 up4 => wpAny_throw (tk _ _ ⟨a, B, sI, pins, σ', H', cls, d, rfl, J, nb, (up.trans up3).trans up4, .inr (.inr (hst ▸ hh4)), na, os, ag, w⟩)
        first
          | exact wpAny_bind (wpAny_pure (wpAny_bind onward))
          | exact wpAny_bind onward
      | @cons h k hs2 ks2 isC _ ih =>
        rintro ⟨b, known, yes, no⟩
        obtain ⟨x, np, pos', b₀, suite, on, rfl, nam, suiteOk, nameOk⟩ := isC.ex
        refine wpAny_handleBy_cons (codeAny_handlers_test ?_) (by intro q; cases q)
        have seen := PySem.W.exm_one (M := model X.prog X.w) J3.kIn kind known
        have test : ∀ {Q E : Value → Shared → Prop}, Q k.cls { s' with heap := h3 } → wpAny (model X.prog X.w) (X.A.mark (some (.ref a))) (eval (.Name x np) X.env) Q E { s' with heap := h3 } := fun {Q E} q => by
          obtain ⟨g, dbg, m | ⟨m, v, n⟩⟩ := nam
          · exact ld_glob (X := X.suite a ((a, o3) :: (X.pn ++ pins))) S3 g m q dbg
          · exact ld_blt (X := X.suite a ((a, o3) :: (X.pn ++ pins))) S3 g m v q n dbg
        refine test (seen.here ?_)
        cases b with
        | false => exact ih (no rfl)
        | true =>
          have wish := yes rfl a na
          rcases nameOk with ⟨rfl, sl⟩ | ⟨n, i, rfl, sl, hi, loc⟩
          · unfold Clause.wish at wish
            rw [sl] at wish
            refine codeAny_handlers_suite (HandSPX.lands_againZ fl3 fun h4 fl4 up4 => ?_)
            have J4 : Inv X pins σ' H' { s' with heap := h4 } := J.landed nb fl4.1 ((up.trans up3).trans up4) os ag
            obtain ⟨o4, _, at4, zc4, data4⟩ := fl4.there
            refine wpAny_mono ((suiteOk a o4 cls d (X.pn ++ pins) zc4 ⟨_, data4⟩).run [] _ _ H' _ (J4.suite at4 data4 na nL nF) wish) (fun f s6 e6 => ?_) (fun _ _ z => False.elim z)
            cases f with
            | ret u => exact let ⟨v6, σ6, H6, S6, r6, q6⟩ := e6; ⟨v6, σ6, H6, S6.unsuite ok, r6, q6⟩
            | next => exact let ⟨σ6, H6, S6, q6⟩ := e6; ⟨σ6, H6, S6.unsuite ok, q6⟩
            | brk => exact let ⟨σ6, H6, S6, q6⟩ := e6; ⟨σ6, H6, S6.unsuite ok, q6⟩
            | cont => exact let ⟨σ6, H6, S6, q6⟩ := e6; ⟨σ6, H6, S6.unsuite ok, q6⟩
          · unfold Clause.wish at wish
            rw [sl] at wish
            refine codeAny_handlers_suite_as (HandSPX.lands_againZ fl3 fun h4 fl4 up4 => ?_)
            have J4 : Inv X pins σ' H' { s' with heap := h4 } := J.landed nb fl4.1 ((up.trans up3).trans up4) os ag
            obtain ⟨o4, _, at4, zc4, data4⟩ := fl4.there
            refine store_ok (X := X.suite a ((a, o4) :: (X.pn ++ pins))) (v := .ref a) (J4.suite at4 data4 na nL nF) hN hi (.inl loc) rfl (fun s5 S5 => ?_) (.inr loc)
            refine wpAny_mono ((suiteOk a o4 cls d (X.pn ++ pins) zc4 ⟨_, data4⟩).run [] s5 _ H' _ S5 wish) (fun f s6 e6 => ?_) (fun _ _ z => False.elim z)
            have gone : ∀ {σ6 : L2.St} {H6 : Hp} {Q : Shared → Prop}, Inv (X.suite a ((a, o4) :: (X.pn ++ pins))) [] σ6 H6 s6 → (∀ s7, Inv X pins (σ6.set i none) H6 s7 → Q s7) →
                wpAny (model X.prog X.w) X.A (do bindName X.env n .none; unbindBehindTheSuite X.env n pos') (fun _ s7 => Q s7) X.xe s6 := fun S6 q => gone_ok (S6.unsuite ok) hN hi loc q
            cases f with
            | ret u => exact let ⟨_, _, _, S6, r6, q6⟩ := e6; gone S6 fun s7 J7 => ⟨_, _, _, J7, r6, q6⟩
            | next => exact let ⟨_, _, S6, q6⟩ := e6; gone S6 fun s7 J7 => ⟨_, _, J7, q6⟩
            | brk => exact let ⟨_, _, S6, q6⟩ := e6; gone S6 fun s7 J7 => ⟨_, _, J7, q6⟩
            | cont => exact let ⟨_, _, S6, q6⟩ := e6; gone S6 fun s7 J7 => ⟨_, _, J7, q6⟩
    exact go hk w
  · cases f with
    | next => exact let ⟨σ', H', J', q⟩ := end_; wpAny_execs_nil ⟨σ', H', J'.ofTry ok, q⟩
    | brk => exact let ⟨σ', H', J', q⟩ := end_; ⟨σ', H', J'.ofTry ok, q⟩
    | cont => exact let ⟨σ', H', J', q⟩ := end_; ⟨σ', H', J'.ofTry ok, q⟩
    | ret u => exact let ⟨v, σ', H', J', r, q⟩ := end_; ⟨v, σ', H', J'.ofTry ok, r, q⟩
end
end My

set_option linter.all false
namespace My
open PySem PySem.Spec PyProof.Rows L2
section
variable {X : Cx} {CX : CXT} {k : Nat} {f C : Addr} {fd : FuncData} {ps : List Str} {sp : Sp} {E : L2.St → XK} {x : Str} {p pos : Pos} {e : Expr} {es : List Expr} {t : TA} {ds : List Value} {dvs : List V}
/-- an object is made, and what its __init__ lets out is told with the slots -/
def tMakeS (C : Addr) (sp : Sp) (dvs : List V) (E : L2.St → XK) (t : TA) : TE := fun σ H Q => t σ H fun vs H1 => ∀ x dx, H1 x = none → H1 dx = none → dx ≠ x →
  sp (.ref x :: (vs ++ dvs)) (upd (upd H1 dx (.own x)) x (.ins C dx [])) (fun v H2 => v = .non ∧ Q (.ref x) H2) (E σ)
theorem pe_makeS (M : Mk X.K C f) (F : FnOk X.prog X.w X.K X.mg X.base CX k f fd ps sp) (hr : Room (k + 1) X.A) (isGlob : Gl X x) (stands : X.mg x = some (.ref C)) (hb : Binds X.K fd ps ds) (hd : Vals dvs ds) (hx : ∀ σ, PassesAt CX X σ (E σ))
    (ha : PA X (e :: es) t) (notDebug : (x == ("__debug__" : Str)) = false := by decide) (first1 : starEach (e :: es) X.env = (false, eval e X.env) :: starEach es X.env := by rfl) (noStar : (backTo pos (starEach es X.env)).any (·.1) = false := by rfl) :
    PE X (.Call (.Name x p) (e :: es) [] pos) (tMakeS C sp dvs E t) := by
  refine ⟨fun pins s σ H Q I red => ?_⟩
  refine wpAny_Call_Name_kw (ld_glob I isGlob stands ?_ notDebug)
  refine PySem.W.callWith_K (h₀ := X.base) I.ok.mod.kin M.kp (thn (ha.run pos pins s σ H _ I red) fun us s1 ⟨vs, H1, J1, r, q⟩ => ⟨J1.kIn, ?_⟩) first1 noStar
  have hq := q (s1.heap.objs.size + 1) s1.heap.objs.size (J1.hok.fresh (Nat.le_succ _)) (J1.hok.fresh (Nat.le_refl _)) (Nat.ne_of_lt (Nat.lt_succ_self _))
  have J2 := Inv.made (C := C) J1
  have r2 : Vals (V.ref (s1.heap.objs.size + 1) :: (vs ++ dvs)) (Value.ref (s1.heap.objs.size + 1) :: (us ++ ds)) := .cons rfl (r.append hd)
  have hl : (Value.ref (s1.heap.objs.size + 1) :: us ++ ds).length = ps.length := by
    have e := r2.length
    rw [F.len _ _ _ _ hq] at e
    exact e.symm
  refine wpAny_call (make_map (f := f) J1.kIn M.makes M.init (beq_iff_eq.mp M.fn) (codeAny_mono (F.run _ X.stack _ _ ⟨Value.ref (s1.heap.objs.size + 1) :: us, []⟩ (Value.ref (s1.heap.objs.size + 1) :: (us ++ ds)) _ _ (E σ) (hr.make C us [])
    (J2.env0.make C us []) (hb _ (Value.ref (s1.heap.objs.size + 1) :: us) J2.kIn hl) r2 hq) fun r s' ends => ?_))
  cases r with
  | error e => exact hx σ pins _ _ e s' J2 ends
  | ok fl =>
    cases fl with
    | ret u =>
      obtain ⟨v, K3, J3, rv, ev, rest⟩ := J2.after ends
      subst ev
      exact ⟨rv, ⟨V.ref (s1.heap.objs.size + 1), K3, J3, rfl, rest⟩⟩
    | next => exact ends.elim
    | brk => exact ends.elim
    | cont => exact ends.elim
end
/-- isinstance of the caught error, which has a dict of its own -/
def rIsD (K : PySem.W.Frag) (cls : Value) (d : Option Addr) (a : Addr) : List V → Hp → VK → Prop := fun xs H Q => ∃ (D dd : Addr) (fs : List (Str × V)) (c : V) (cv : Value) (b : Bool), cls = .ref D ∧ d = some dd ∧ ExcC K D ∧ H dd = some (.xd fs) ∧
  xs = [.ref a, c] ∧ ClsV c cv ∧ PySem.W.kitOne K (.ref D) cv = some b ∧ Q (.bl b) H
def rIsDT (K : PySem.W.Frag) (cls : Value) (d : Option Addr) (a : Addr) : List V → Hp → VK → Prop := fun xs H Q => ∃ (D dd tp : Addr) (fs : List (Str × V)) (cs : List V) (us : List Value) (b : Bool), cls = .ref D ∧ d = some dd ∧ ExcC K D ∧ H dd = some (.xd fs) ∧
  xs = [.ref a, .ref tp] ∧ H tp = some (.tup cs) ∧ Paired ClsV cs us ∧ PySem.W.kitAny K (.ref D) us = some b ∧ Q (.bl b) H
theorem instD {X : Cx} {a D dd : Addr} {oe : Obj} {pn : List (Addr × Obj)} {pins : List (Addr × Obj)} {σ : L2.St} {H : Hp} {s : Shared} {fs : List (Str × V)} (I : Inv (X.suite a ((a, oe) :: pn)) pins σ H s) (hz : Zc (.ref D) (some dd) oe) (hf : ∃ vs, oe.data = .fields vs) (ed : H dd = some (.xd fs)) :
    ∃ od, PySem.W.InstAt s.heap a oe D (some od) := by
  obtain ⟨ha, _⟩ := I.pin (a, oe) (List.mem_append.mpr (.inl List.mem_cons_self))
  obtain ⟨vs, hd⟩ := hf
  have hx : ObjOk X.prog X.w H s.heap dd (.xd fs) := I.hok dd _ ed
  obtain ⟨mA, hns, hr⟩ := hx
  obtain ⟨od, ho, hl⟩ := lookIn_ns hns
  exact ⟨od, ha, hz.1, by unfold PySem.W.notCls; rw [hd] <;> rfl, by rw [hz.2]; exact ho⟩
theorem hasCls {K : PySem.W.Frag} {D : Addr} (h : PySem.W.hasDictIn K D = true) : (PySem.W.clsIn K D).isSome = true := by
  obtain ⟨cd, hc, _⟩ := PySem.W.any_some h
  rw [hc]
  rfl
theorem call_isD {X : Cx} {a : Addr} {oe : Obj} {cls : Value} {d : Option Addr} {pn : List (Addr × Obj)} (hz : Zc cls d oe) (hf : ∃ vs, oe.data = .fields vs) : CallR (X.suite a ((a, oe) :: pn)) (.builtin "isinstance") (rIsD X.K cls d a) := by
  intro pins s σ H vals us Q I r red
  obtain ⟨D, dd, fs, c, cv, b, rfl, rfl, C, ed, rfl, hcv, e, q⟩ := red
  obtain ⟨ua, ub, rfl, ra, rb⟩ := vals2 r
  have e2 := hcv.eq rb
  subst e2
  obtain rfl : ua = Value.ref a := ra
  obtain ⟨od, J⟩ := instD I hz hf ed
  exact PySem.W.kia_one (PySem.W.kitx_exc (hasCls C.hd) C.hg C.hk C.hs C.ha C.hn C.ht C.hm) I.kIn J e (fun z => nomatch z) fun tk => ⟨.bl b, H, I.kept (t' := tk) fun _ _ z => z, rfl, q⟩
theorem call_isDT {X : Cx} {a : Addr} {oe : Obj} {cls : Value} {d : Option Addr} {pn : List (Addr × Obj)} (hz : Zc cls d oe) (hf : ∃ vs, oe.data = .fields vs) : CallR (X.suite a ((a, oe) :: pn)) (.builtin "isinstance") (rIsDT X.K cls d a) := by
  intro pins s σ H vals us Q I r red
  obtain ⟨D, dd, tp, fs, cs, ws, b, rfl, rfl, C, ed, rfl, hT, k, e, q⟩ := red
  obtain ⟨ua, ub, rfl, ra, rb⟩ := vals2 r
  cases (show ub = Value.ref tp from rb)
  obtain rfl : ua = Value.ref a := ra
  obtain ⟨od, J⟩ := instD I hz hf ed
  obtain ⟨_, things, rv, o, h1, h2, n, h3⟩ := (show ObjOk X.prog X.w H s.heap tp (.tup cs) from I.hok tp _ hT)
  have e3 := ClsV.all k rv
  subst e3
  obtain ⟨oc, od', dt, sl⟩ := o
  simp only at h2 h3
  subst h2 h3
  exact PySem.W.kia_tup (PySem.W.kitx_exc (hasCls C.hd) C.hg C.hk C.hs C.ha C.hn C.ht C.hm) I.kIn J h1 e (fun z => nomatch z) fun tk => ⟨.bl b, H, I.kept (t' := tk) fun _ _ z => z, rfl, q⟩
end My

namespace My
open PySem PySem.Spec PyProof.Rows L2
local macro_rules | `(tactic| walk_at "side") => `(tactic| first | (dsimp only; omega) | exact ⟨by omega, by omega⟩ | exact Or.inl ⟨by omega, by omega⟩ | exact Or.inr ⟨by omega, by omega⟩ | decide)
local macro_rules | `(tactic| walk_at "sq") => `(tactic| first | assumption | exact SqL.of (by assumption) | exact SqT.of (by assumption) | (refine L2.Same.seq (by assumption) ?_; walk_at "sq") | (refine L2.Same.seqT (by assumption) ?_; walk_at "sq") | exact Or.inl (by walk_at "sq") | exact Or.inr (by walk_at "sq"))
local macro_rules | `(tactic| walk_at "1") => `(tactic| first
  | refine ⟨_, rfl, iteT ?_⟩
  | refine ⟨_, rfl, iteF ?_⟩
  | refine ⟨_, rfl, ?_⟩
  | refine ⟨_, _, rfl, rfl, (by walk_at "side"), ?_⟩
  | refine ⟨_, _, rfl, rfl, ?_⟩
  | refine ⟨_, _, _, _, true, rfl, .ty _, .base (.int _), kit_ty (a := "int") (by decide +kernel), ?_⟩
  | refine ⟨_, _, _, _, false, rfl, .ty _, .base (.int _), kit_ty (a := "int") (by decide +kernel), ?_⟩
  | refine ⟨_, _, rfl, (by walk_at "sq"), ?_⟩
  | refine ⟨_, _, _, _, rfl, rfl, (by walk_at "sq"), (by first | rfl | assumption), ?_⟩
  | refine Or.inl ⟨_, _, _, _, rfl, rfl, (by walk_at "sq"), (by first | rfl | assumption), ?_⟩
  | refine Or.inr (Or.inl ⟨_, _, _, _, rfl, rfl, (by walk_at "sq"), (by first | rfl | assumption), ?_⟩)
  | refine ⟨_, _, rfl, Or.inl ⟨(by walk_at "sq"), ?_⟩⟩
  | refine ⟨rfl, ?_⟩
  | refine iteT ?_
  | refine iteF ?_
  | refine ⟨_, _, _, _, _, rfl, (by assumption), (by assumption), (by assumption), (by assumption), ?_⟩
  | refine Or.inl ⟨_, rfl, ?_⟩
  | refine Or.inr ⟨_, rfl, ?_⟩
  | refine ⟨_, _, rfl, (by walk_at "side"), ?_⟩
  | refine ⟨_, _, rfl, ?_⟩)
local macro_rules | `(tactic| walk_at "fld") => `(tactic| skip)
local macro_rules | `(tactic| walk_at "s") => `(tactic| repeat walk_at "1")
local macro_rules | `(tactic| walk_at "size") => `(tactic| first | exact Nat.le_of_ble_eq_true rfl | (simp only [List.length_map, List.length_append, List.length_cons, List.length_nil]; omega))
local macro_rules | `(tactic| walk_at "new") => `(tactic| (first | refine ⟨(by walk_at "size"), fun p hp => ?_⟩ | refine fun p hp => ?_); (generalize hq : upd _ p _ = H1); (obtain ⟨s, e⟩ := new_facts hp hq); clear hq)
/-! Tally.__init__ -/
/-- lists and tuples stay -/
def KeepLT (H H' : Hp) : Prop := ∀ c xs, (H c = some (.lst xs) → H' c = some (.lst xs)) ∧ (H c = some (.tup xs) → H' c = some (.tup xs))
theorem Dv.keep {H H' : Hp} {v : V} {d : PyData} (s : KeepLT H H') (h : Dv H v d) : Dv H' v d :=
  Dv.rec (motive_1 := fun v d _ => Dv H' v d) (motive_2 := fun vs ds _ => DvAll H' vs ds) .non (fun b => .bl b) (fun i => .int i) (fun q => .str q) (fun q _ sm ih => .lst ((s _ _).1 q) ih sm) (fun q _ sm ih => .tup ((s _ _).2 q) ih sm) .nil (fun _ _ a b => .cons a b) h
theorem DvAll.keep {H H' : Hp} {xs : List V} {ds : List PyData} (s : KeepLT H H') (h : DvAll H xs ds) : DvAll H' xs ds := by
  induction xs generalizing ds with
  | nil =>
    cases h
    exact .nil
  | cons x xs ih =>
    cases h with
    | cons h t => exact .cons (h.keep s) (ih t)
def dn (x : Stp) : Sti := (x.1, x.2.getD 0)
theorem up_dn {x : Stp} (h : x.2 ≠ none) : up (dn x) = x := by
  obtain ⟨t, c⟩ := x
  cases c with
  | none => exact absurd rfl h
  | some c => rfl
theorem ups_dn {fs : List Stp} (h : ∀ x ∈ fs, x.2 ≠ none) : (fs.map dn).map up = fs := by
  rw [List.map_map]
  exact (List.map_congr_left fun x hx => up_dn (h x hx)).trans (List.map_id fs)
abbrev fsD (d : PyData) : List Stp := (itemsD d).map stO
abbrev asD (d : PyData) : List Sti := (fsD d).map dn
theorem rise_some : ∀ {x : Option Int × Option Int} {ds : List Stp}, riseF x ds = true → ∀ y, ds.getLast? = some y → y.2 ≠ none → ∀ z ∈ ds, z.2 ≠ none
  | x, [], _, y, h, _, z, hz => nomatch hz
  | x, d :: ds, hr, y, h, hy, z, hz => by
    have hr : (upC x.2 d.2 && (upT x.1 d.1 && riseF (prO d) ds)) = true := hr
    rw [Bool.and_eq_true, Bool.and_eq_true] at hr
    cases ds with
    | nil =>
      rw [List.mem_singleton] at hz
      have : d = y := Option.some.inj h
      rw [hz, this]
      exact hy
    | cons d2 ds =>
      have hl : (d2 :: ds).getLast? = some y := by
        rw [← h]
        exact (List.getLast?_cons_cons ..).symm
      rcases List.mem_cons.mp hz with rfl | hz
      · intro q
        have h3 := hr.2.2
        have h3 : (upC z.2 d2.2 && (upT (some z.1) d2.1 && riseF (prO d2) ds)) = true := h3
        rw [q] at h3
        exact nomatch (show false = true from h3)
      · exact rise_some hr.2.2 y hl hy z hz
structure GoodT (d0 d1 d2 d3 d4 : PyData) : Prop where
  u : (isNonD d0 || isNumD d0) = true
  sf : isSeqD d1 = true
  af : (itemsD d1).all isFD = true
  sa : isSeqD d2 = true
  aa : (itemsD d2).all isStepD = true
  e3 : isNumD d3 = true
  e4 : isNumD d4 = true
  hz : fsD d2 = [] → intD d3 = 0 ∧ intD d4 = 0
  hne : fsD d2 = [] ∨ ∀ x ∈ fsD d1, x.2 ≠ none
theorem goodT {d0 d1 d2 d3 d4 : PyData} (h : wordT d0 d1 d2 d3 d4 = none) : GoodT d0 d1 d2 d3 d4 := by
  unfold wordT at h
  split at h
  · rename_i hu
    split at h
    · rename_i hf
      split at h
      · rename_i hr
        obtain ⟨sf, af⟩ := Bool.and_eq_true_iff.mp hf
        unfold wordA at h
        split at h
        · rename_i ha
          obtain ⟨sa, aa⟩ := Bool.and_eq_true_iff.mp ha
          have hfs : ∀ l, l = ((fsD d1).getLast?.map prO).getD (none, cO d0) → l.2 ≠ none → ∀ x ∈ fsD d1, x.2 ≠ none := fun l hl h2 x hx => by
            cases hy : (fsD d1).getLast? with
            | none =>
              rw [List.getLast?_eq_none_iff] at hy
              rw [hy] at hx
              cases hx
            | some y =>
              rw [hy] at hl
              rw [hl] at h2
              exact rise_some hr y hy h2 x hx
          generalize hl : ((List.map stO (itemsD d1)).getLast?.map prO).getD (none, cO d0) = l at h
          have hfs := hfs l hl.symm
          unfold wordR at h
          split at h
          · rename_i hn
            split at h
            · cases h
            · rename_i h0
              have e0 : fsD d2 = [] := List.length_eq_zero_iff.mp (Nat.le_zero.mp (Nat.not_lt.mp h0))
              split at h
              · rename_i h3
                obtain ⟨n3, l3⟩ := Bool.and_eq_true_iff.mp h3
                split at h
                · rename_i h4
                  obtain ⟨n4, l4⟩ := Bool.and_eq_true_iff.mp h4
                  refine ⟨hu, sf, af, sa, aa, n3, n4, fun _ => ⟨?_, of_decide_eq_true l4⟩, Or.inl e0⟩
                  have := (num_eq n3).2
                  have := of_decide_eq_true l3
                  omega
                · cases h
              · cases h
          · rename_i c hn
            split at h
            · rename_i x y hx hy
              split at h
              · split at h
                · rename_i h3
                  split at h
                  · rename_i h4
                    refine ⟨hu, sf, af, sa, aa, (Bool.and_eq_true_iff.mp h3).1, (Bool.and_eq_true_iff.mp h4).1, fun q => ?_, Or.inr (hfs (by rw [hn]; exact fun q => nomatch q))⟩
                    have q : List.map stO (itemsD d2) = [] := q
                    rw [q] at hx
                    cases hx
                  · cases h
                · cases h
              · cases h
            · cases h
        · cases h
      · cases h
    · cases h
  · cases h
/-- the least form of a tally -/
def MadeT (fs : List Stp) (as : List Sti) (t m : Int) (f' : List Stp) (a' : List Sti) (t' m' : Int) : Prop :=
  ∃ p b, LeastP as t m p ∧ ShortS (fs ++ (as.take p).map up) p (t * p / as.length) (m * p / as.length) fs.length b ∧ f' = (fs ++ (as.take p).map up).take b ∧ a'.map up = ((fs ++ (as.take p).map up).drop b).take p ∧ t' = t * p / as.length ∧ m' = m * p / as.length
/-- the class of the error -/
structure ErrT (P : Program) (w : World) (K : PySem.W.Frag) (mg : Str → Option Value) (base : Heap) (D : Addr) (sp : Sp) : Prop where
  ex : ∃ fI fd, OexC K D ∧ PySem.W.findIn K (.ref D) "__init__" = some (some (.ref fI)) ∧ PySem.W.typeIn K (.ref fI) = some (.type "function") ∧ FnOk P w K mg base CX0 1 fI fd ["self", "word"] sp ∧ Binds K fd ["self", "word"] [] ∧ mg "InvalidTally" = some (.ref D)
theorem upd_facts' {H H1 : Hp} {p : Addr} {o : HO} (hq : upd H p o = H1) : H1 p = some o ∧ ∀ b, b ≠ p → H1 b = H b := by
  subst hq
  exact ⟨upd_same, fun b h => upd_ne h⟩
section
variable {P : Program} {w : World} {K : PySem.W.Frag} {mg : Str → Option Value} {base : Heap} {C D : Addr}
abbrev s_IY_init : Stmt := inClass (topS 5) 0
theorem sc_IY_init : FnScope ["self", "word"] ["self", "word"] (defScope s_IY_init) := ⟨rfl, rfl, rfl, by decide +kernel, rfl, by decide +kernel, by decide +kernel⟩
def spErr (D : Addr) : Sp := fun vs H Q _ => ∃ (a : Addr) (y : V), vs = [.ref a, y] ∧ H a = some (exo a D none) ∧ ∀ dx, H dx = none → dx ≠ a → Q .non (upd (upd H dx (exd dx [("word", y)])) a (exo a D (some dx)))
theorem ok_err {f1 : Addr} {fd : FuncData} (F : Fun K "__init__" "InvalidTally.__init__" s_IY_init f1 fd) (O : OexC K D) (nw : PySem.W.findIn K (.ref D) "word" = some none) : FnOk P w K mg base CX0 1 f1 fd ["self", "word"] (spErr D) := by
  refine F.ok sc_IY_init (fun vs H Q E h => ?_) (fun cdv A outer s H vs Q E hr h => ?_)
  · obtain ⟨_, _, rfl, _⟩ := h
    rfl
  · obtain ⟨a, y, rfl, e, k⟩ := h
    refine ⟨_, pss_one (ps_ost (pv 0) (pv 1)), ?_⟩
    exact ⟨_, rfl, _, rfl, a, D, rfl, O, nw, Or.inl ⟨e, fun dx n ne => k dx n ne⟩⟩
/-- a tally is made, or the wrong argument told -/
def spInitT (C D : Addr) : Sp := fun vs H Q E => ∃ (H0 : Hp) (p dx : Addr) (v0 v1 v2 v3 v4 : V) (d0 d1 d2 d3 d4 : PyData), vs = [.ref p, v0, v1, v2, v3, v4] ∧ H0 p = none ∧ Same H0 H ∧ H p = some (.ins C dx []) ∧
  Dv H0 v0 d0 ∧ Dv H0 v1 d1 ∧ Dv H0 v2 d2 ∧ Dv H0 v3 d3 ∧ Dv H0 v4 d4 ∧
  (∀ w, wordT d0 d1 d2 d3 d4 = some w → ∀ H' d, Same H0 H' → H' d = some (.xd [("word", .str w)]) → E (.ref D) (some d) H') ∧
  (wordT d0 d1 d2 d3 d4 = none → (itemsD d1).length ≤ 1000 ∧ (itemsD d2).length ≤ 1000 ∧ ∀ H' f' a' t' m', Same H0 H' → MadeT (fsD d1) (asD d2) (intD d3) (intD d4) f' a' t' m' → TalAt C H' p (cO d0) f' a' t' m' → Q .non H')
abbrev s_Tally_init : Stmt := inClass (topS 39) 0
theorem sc_Tally_init : FnScope ["self", "under", "first", "again", "turn", "more", "word", "form"] ["self", "under", "first", "again", "turn", "more"] (defScope s_Tally_init) := ⟨rfl, rfl, rfl, by decide +kernel, rfl, by decide +kernel, by decide +kernel⟩
set_option maxHeartbeats 8000000 in
theorem ok_init {f1 : Addr} {fd : FuncData} (F : Fun K "__init__" "Tally.__init__" s_Tally_init f1 fd) (R : TalCls K C) (X : ErrT P w K mg base D (spErr D))
    (o_wrong_argument : Own P w K mg base "wrong_argument_counts" 4 ["under", "first", "again", "turn", "more"] spWrongT) (o_least_form : Own P w K mg base "least_form" 3 ["first", "again", "turn", "more"] (spLeastF K)) :
    FnOk P w K mg base (L2.CX P w) 5 f1 fd ["self", "under", "first", "again", "turn", "more"] (spInitT C D) := by
  obtain ⟨fI, fdI, OX, iC, tI, FI, bI, mI⟩ := X.ex
  refine F.okX sc_Tally_init (fun vs H Q E h => ?_) (fun cdv A outer s H vs Q E hr h => ?_)
  · obtain ⟨_, _, _, _, _, _, _, _, _, _, _, _, _, rfl, _⟩ := h
    rfl
  · obtain ⟨H0, p, dx, v0, v1, v2, v3, v4, d0, d1, d2, d3, d4, rfl, hp0, s0, hp, h0, h1, h2, h3, h4, kE, kQ⟩ := h
    refine ⟨_, (pss_cons (ps_set (i := 6) sc_Tally_init.nd rfl (Or.inl rfl) (pe_own o_wrong_argument (hr.mono (by decide)) (pa_cons (pv 1) (pa_cons (pv 2) (pa_cons (pv 3) (pa_cons (pv 4) (pa_cons (pv 5) pa_nil)))))))
  (pss_cons (ps_if (pt_cmpR op_notN (pv 6) pe_non (nomark _))
    (pss_one (ps_raise rfl (takes_of rfl rfl rfl rfl) (pmk_oex OX iC tI FI (hr.mono (by decide)) bI .nil pass0 rfl mI (pa_cons (pv 6) pa_nil))))
    pss_nil)
  (pss_cons (ps_fld (pv 0) (pv 1) rfl)
  (pss_cons (ps_set (i := 7) sc_Tally_init.nd rfl (Or.inl rfl) (pe_own o_least_form (hr.mono (by decide)) (pa_cons (pv 2) (pa_cons (pv 3) (pa_cons (pv 4) (pa_cons (pv 5) pa_nil))))))
  (pss_cons (ps_fld (pv 0) (pe_ix ix_tup (pv 7) pe_int (fun _ _ => rfl)) rfl)
  (pss_cons (ps_fld (pv 0) (pe_ix ix_tup (pv 7) pe_int (fun _ _ => rfl)) rfl)
  (pss_cons (ps_fld (pv 0) (pe_ix ix_tup (pv 7) pe_int (fun _ _ => rfl)) rfl)
  (pss_one (ps_fld (pv 0) (pe_ix ix_tup (pv 7) pe_int (fun _ _ => rfl)) rfl))))))))), ?_⟩
    refine ⟨_, rfl, _, rfl, _, rfl, _, rfl, _, rfl, v0, v1, v2, v3, v4, d0, d1, d2, d3, d4, rfl, h0.same s0, h1.same s0, h2.same s0, h3.same s0, h4.same s0, fun H1 s1 => ?_⟩
    have s01 := s0.trans s1
    cases hw : wordT d0 d1 d2 d3 d4 with
    | some w' =>
      refine ⟨_, rfl, rfl, _, rfl, ?_⟩
      refine iteT ?_
      refine ⟨_, rfl, Nat.le_of_ble_eq_true rfl, fun q nq => ?_⟩
      refine ⟨q, .str w', rfl, upd_same, fun d nd ned => ?_⟩
      have nd1 : H1 d = none := by
        rw [upd_ne ned] at nd
        exact nd
      refine ⟨rfl, d, [("word", .str w')], upd_same, ?_, nd1, ?_⟩
      · rw [upd_ne ned, upd_same]
      · refine kE w' hw _ d (fun b o e => ?_) upd_same
        have e1 := s01 _ _ e
        have nb : b ≠ d := ne_of_none e1 nd1
        have nq' : b ≠ q := ne_of_none e1 nq
        rw [upd_ne nb, del_ne nq', upd_ne nq', upd_ne nb, upd_ne nq']
        exact e1
    | none =>
      obtain ⟨l1, l2, kQ⟩ := kQ hw
      have G := goodT hw
      refine ⟨_, rfl, rfl, _, rfl, ?_⟩
      refine iteF ?_
      have hp1 : H1 p = some (.ins C dx []) := s1 _ _ hp
      refine ⟨_, rfl, _, rfl, p, C, dx, _, rfl, hp1, R.cl, R.nU, (by show 0 < 1000; decide), ?_⟩
      generalize hq : upd H1 p _ = H2
      obtain ⟨e2, o2⟩ := upd_facts' hq
      clear hq
      have sg2 : Same H0 H2 := fun c o e => by
        rw [o2 _ (ne_of_none e hp0)]
        exact s01 _ _ e
      clear o2 s01 s1 s0 hp1 hp
      have hds1 : itemsD d1 = (fsD d1).map stD := map_eqs (fun d => first_eq) G.af
      have hds2 : itemsD d2 = (fsD d2).map stD := map_eqs (fun d h => (step_eq h).1) G.aa
      have hup : (asD d2).map up = fsD d2 := ups_dn fun y hy => by
        obtain ⟨d, hd, rfl⟩ := List.mem_map.mp hy
        obtain ⟨c, ec, _⟩ := (step_eq (List.all_eq_true.mp G.aa d hd)).2
        rw [ec]
        exact fun q => nomatch q
      have lfs : (fsD d1).length = (itemsD d1).length := List.length_map ..
      have las : (asD d2).length = (itemsD d2).length := by rw [List.length_map, List.length_map]
      have hv0 : v0 = cV (cO d0) := dv_c (by
        have ed : d0 = cD (cO d0) := by
          have := G.u
          cases d0 <;> first | rfl | cases this
        rw [← ed]
        exact h0)
      obtain ⟨A1, xs1, rfl, hS1, hX1, _, _⟩ := (h1.same sg2).seq (K := K) G.sf
      obtain ⟨A2, xs2, rfl, hS2, hX2, _, _⟩ := (h2.same sg2).seq (K := K) G.sa
      have ev3 : v3 = .int (intD d3) := by
        obtain ⟨e, _⟩ := num_eq G.e3
        rw [e] at h3
        cases h3
        rfl
      have ev4 : v4 = .int (intD d4) := by
        obtain ⟨e, _⟩ := num_eq G.e4
        rw [e] at h4
        cases h4
        rfl
      subst ev3 ev4
      rw [hds1] at hX1
      rw [hds2, ← hup, List.map_map] at hX2
      have hne : asD d2 = [] ∨ ∀ x ∈ fsD d1, x.2 ≠ none := G.hne.imp (fun q => by rw [show asD d2 = (fsD d2).map dn from rfl, q]; rfl) id
      have hz : asD d2 = [] → intD d3 = 0 ∧ intD d4 = 0 := fun q => G.hz (by rw [← hup, q]; rfl)
      refine ⟨_, rfl, _, rfl, _, rfl, _, rfl, A1, A2, xs1, xs2, fsD d1, asD d2, intD d3, intD d4, rfl, hS1, hX1, hS2, hX2, by omega, by omega, hne, hz, fun H3 r pp b s3 nr hP hS hd => ?_⟩
      have e3 := s3 _ _ e2
      have sg3 := sg2.trans s3
      generalize fsD d1 = fs at *
      generalize asD d2 = as at *
      cases hd with
      | @tup _ ys _ er hx _ =>
        obtain ⟨y1, ys, rfl, i1, hx⟩ := hx.inv
        obtain ⟨y2, ys, rfl, i2, hx⟩ := hx.inv
        obtain ⟨y3, ys, rfl, i3, hx⟩ := hx.inv
        obtain ⟨y4, ys, rfl, i4, hx⟩ := hx.inv
        obtain rfl := hx.inv0
        cases i3
        cases i4
        cases i1 with
        | @tup pf xf _ epf hxf _ =>
          cases i2 with
          | @tup pa xa _ epa hxa _ =>
            have npr : r ≠ p := ne_of_none e2 nr |>.symm
            have npf : pf ≠ p := fun q => by rw [q, e3] at epf; cases epf
            have npa : pa ≠ p := fun q => by rw [q, e3] at epa; cases epa
            refine ⟨_, rfl, _, _, _, _, rfl, rfl, SqT.of er, rfl, _, rfl, p, C, dx, _, rfl, e3, R.cl, R.nF, (by show 1 < 1000; decide), ?_⟩
            generalize hq : upd H3 p _ = H4
            obtain ⟨e4, o4⟩ := upd_facts' hq
            clear hq
            refine ⟨_, rfl, _, _, _, _, rfl, rfl, SqT.of ((o4 _ npr).trans er), rfl, _, rfl, p, C, dx, _, rfl, e4, R.cl, R.nA, (by show 2 < 1000; decide), ?_⟩
            generalize hq : upd H4 p _ = H5
            obtain ⟨e5, o5⟩ := upd_facts' hq
            clear hq
            refine ⟨_, rfl, _, _, _, _, rfl, rfl, SqT.of ((o5 _ npr).trans ((o4 _ npr).trans er)), rfl, _, rfl, p, C, dx, _, rfl, e5, R.cl, R.nT, (by show 3 < 1000; decide), ?_⟩
            generalize hq : upd H5 p _ = H6
            obtain ⟨e6, o6⟩ := upd_facts' hq
            clear hq
            refine ⟨_, rfl, _, _, _, _, rfl, rfl, SqT.of ((o6 _ npr).trans ((o5 _ npr).trans ((o4 _ npr).trans er))), rfl, _, rfl, p, C, dx, _, rfl, e6, R.cl, R.nM, (by show 4 < 1000; decide), ?_⟩
            generalize hq : upd H6 p _ = H7
            obtain ⟨e7, o7⟩ := upd_facts' hq
            clear hq
            have o37 : ∀ c, c ≠ p → H7 c = H3 c := fun c n => by rw [o7 _ n, o6 _ n, o5 _ n, o4 _ n]
            have s07 : Same H0 H7 := fun c o e => by
              rw [o37 _ (ne_of_none e hp0)]
              exact sg3 _ _ e
            have kp : KeepLT H3 H7 := fun c xs => ⟨fun e => by rw [o37 _ (fun q => by rw [q, e3] at e; cases e)]; exact e, fun e => by rw [o37 _ (fun q => by rw [q, e3] at e; cases e)]; exact e⟩
            obtain ⟨ws, hws⟩ : ∃ ws, ws = fs ++ (as.take pp).map up := ⟨_, rfl⟩
            rw [← hws] at hxf hxa hS
            have hal : ∀ y ∈ (ws.drop b).take pp, y.2 ≠ none := fun y hy => by
              have hy2 := List.mem_of_mem_take hy
              have hy3 := List.mem_of_mem_drop hy2
              rw [hws] at hy3
              rcases List.mem_append.mp hy3 with q | q
              · rcases hne with h0 | h0
                · have : pp = 0 := by
                    have := hP.le
                    rw [h0] at this
                    exact Nat.le_zero.mp this
                  rw [this, List.take_zero] at hy
                  cases hy
                · exact h0 y q
              · obtain ⟨z, _, rfl⟩ := List.mem_map.mp q
                exact fun q => nomatch q
            have hdn := ups_dn hal
            refine kQ H7 (ws.take b) (((ws.drop b).take pp).map dn) _ _ s07 ⟨pp, b, hP, by rw [← hws]; exact hS, by rw [hws], by rw [hdn, hws], rfl, rfl⟩ ⟨dx, pf, pa, xf, xa, by rw [e7, hv0]; rfl, (o37 _ npf).trans epf, hxf.keep kp, (o37 _ npa).trans epa, ?_⟩
            have h := hxa.keep kp
            rw [← hdn, List.map_map] at h
            exact h
end
end My

namespace My
open PySem PySem.Spec PyProof.Rows L2
local macro_rules | `(tactic| walk_at "side") => `(tactic| first | (dsimp only; omega) | exact ⟨by omega, by omega⟩ | exact Or.inl ⟨by omega, by omega⟩ | exact Or.inr ⟨by omega, by omega⟩ | decide)
local macro_rules | `(tactic| walk_at "sq") => `(tactic| first | assumption | exact SqL.of (by assumption) | exact SqT.of (by assumption) | (refine L2.Same.seq (by assumption) ?_; walk_at "sq") | (refine L2.Same.seqT (by assumption) ?_; walk_at "sq") | exact Or.inl (by walk_at "sq") | exact Or.inr (by walk_at "sq"))
local macro_rules | `(tactic| walk_at "1") => `(tactic| first
  | refine ⟨_, rfl, iteT ?_⟩
  | refine ⟨_, rfl, iteF ?_⟩
  | refine ⟨_, rfl, ?_⟩
  | refine ⟨_, _, rfl, rfl, (by walk_at "side"), ?_⟩
  | refine ⟨_, _, rfl, rfl, ?_⟩
  | refine ⟨_, _, _, _, true, rfl, .ty _, .base (.int _), kit_ty (a := "int") (by decide +kernel), ?_⟩
  | refine ⟨_, _, _, _, false, rfl, .ty _, .base (.int _), kit_ty (a := "int") (by decide +kernel), ?_⟩
  | refine ⟨_, _, rfl, (by walk_at "sq"), ?_⟩
  | refine ⟨_, _, _, _, rfl, rfl, (by walk_at "sq"), (by first | rfl | assumption), ?_⟩
  | refine Or.inl ⟨_, _, _, _, rfl, rfl, (by walk_at "sq"), (by first | rfl | assumption), ?_⟩
  | refine Or.inr (Or.inl ⟨_, _, _, _, rfl, rfl, (by walk_at "sq"), (by first | rfl | assumption), ?_⟩)
  | refine ⟨_, _, rfl, Or.inl ⟨(by walk_at "sq"), ?_⟩⟩
  | refine ⟨rfl, ?_⟩
  | refine iteT ?_
  | refine iteF ?_
  | refine ⟨_, _, _, _, _, rfl, (by assumption), (by assumption), (by assumption), (by assumption), ?_⟩
  | refine Or.inl ⟨_, rfl, ?_⟩
  | refine Or.inr ⟨_, rfl, ?_⟩
  | refine ⟨_, _, rfl, (by walk_at "side"), ?_⟩
  | refine ⟨_, _, rfl, ?_⟩)
local macro_rules | `(tactic| walk_at "fld") => `(tactic| skip)
local macro_rules | `(tactic| walk_at "s") => `(tactic| repeat walk_at "1")
local macro_rules | `(tactic| walk_at "size") => `(tactic| first | exact Nat.le_of_ble_eq_true rfl | (simp only [List.length_map, List.length_append, List.length_cons, List.length_nil]; omega))
local macro_rules | `(tactic| walk_at "new") => `(tactic| (first | refine ⟨(by walk_at "size"), fun p hp => ?_⟩ | refine fun p hp => ?_); (generalize hq : upd _ p _ = H1); (obtain ⟨s, e⟩ := new_facts hp hq); clear hq)
/-! the rate, by, == -/
theorem eqv_c (x y : Option Int) : PyData.eqv (cD x) (cD y) = decide (x = y) := by
  cases x <;> cases y
  · rfl
  · rfl
  · rfl
  · rename_i i j
    show (i == j) = decide (some i = some j)
    by_cases e : i = j
    · subst e; simp
    · rw [beq_eq_false_iff_ne.mpr e]
      exact (decide_eq_false fun q => e (Option.some.inj q)).symm
theorem canLay_c (c : Option Int) : (cD c).canLay0 = true := by cases c <;> rfl
theorem depth_c (c : Option Int) : (cD c).depth = 0 := by cases c <;> rfl
theorem canLay_sts : ∀ xs : List Stp, PyData.canLayAll0 (xs.map stD) = true
  | [] => rfl
  | x :: r => by
    show ((true && ((cD x.2).canLay0 && true)) && PyData.canLayAll0 (r.map stD)) = true
    rw [canLay_sts r, canLay_c]
    rfl
theorem depth_sts : ∀ xs : List Stp, PyData.depthAll (xs.map stD) ≤ 1
  | [] => Nat.zero_le _
  | x :: r => by
    have h := depth_sts r
    have e : PyData.depthAll ((x :: r).map stD) = max (max 0 (max (cD x.2).depth 0) + 1) (PyData.depthAll (r.map stD)) := rfl
    rw [e, depth_c]
    omega
theorem shaped_stt (xs : List Stp) : SeqAt.shaped (.tuple (xs.map stD)) = true := by
  have h := depth_sts xs
  show (PyData.canLayAll0 (xs.map stD) && decide (PyData.depthAll (xs.map stD) + 1 ≤ 64)) = true
  rw [canLay_sts, decide_eq_true (by omega)]
  rfl
theorem eqv_st (x y : Stp) : PyData.eqv (stD x) (stD y) = decide (x = y) := by
  obtain ⟨a, b⟩ := x
  obtain ⟨c, d⟩ := y
  show (a == c && (PyData.eqv (cD b) (cD d) && true)) = decide ((a, b) = (c, d))
  rw [eqv_c]
  by_cases h1 : a = c
  · by_cases h2 : b = d
    · subst h1 h2
      simp
    · rw [decide_eq_false h2, decide_eq_false (fun q => h2 (Prod.mk.inj q).2)]
      simp
  · rw [beq_eq_false_iff_ne.mpr h1, decide_eq_false (fun q => h1 (Prod.mk.inj q).1)]
    rfl
theorem eqvAll_st : ∀ xs ys : List Stp, PyData.eqvAll (xs.map stD) (ys.map stD) = decide (xs = ys)
  | [], [] => rfl
  | [], _ :: _ => rfl
  | _ :: _, [] => rfl
  | x :: xs, y :: ys => by
    show (PyData.eqv (stD x) (stD y) && PyData.eqvAll (xs.map stD) (ys.map stD)) = decide (x :: xs = y :: ys)
    rw [eqv_st, eqvAll_st xs ys]
    by_cases e : x = y
    · subst e
      simp
    · rw [decide_eq_false e]
      exact (decide_eq_false fun q => e (List.cons.inj q).1).symm
theorem rd_neT {K : PySem.W.Frag} {H : Hp} {Q : VK} {p q : Addr} {xf yf : List V} (xs ys : List Stp) (h1 : H p = some (.tup xf)) (g1 : DvAll H xf (xs.map stD)) (h2 : H q = some (.tup yf)) (g2 : DvAll H yf (ys.map stD)) (l1 : xs.length ≤ 2000) (l2 : ys.length ≤ 2000)
    (k : Q (.bl (!decide (xs = ys))) H) : rNeD K (.ref p) (.ref q) H Q := by
  have d1 : Dv H (.ref p) (.tuple (xs.map stD)) := .tup h1 g1 (by rw [List.length_map]; exact l1)
  have d2 : Dv H (.ref q) (.tuple (ys.map stD)) := .tup h2 g2 (by rw [List.length_map]; exact l2)
  refine ⟨_, _, d1.dp, d2.dp, shaped_stt xs, shaped_stt ys, ?_⟩
  rw [show PyData.eqv (.tuple (xs.map stD)) (.tuple (ys.map stD)) = PyData.eqvAll (xs.map stD) (ys.map stD) from rfl, eqvAll_st]
  exact k
def lowN (i j : Int) : Int := i / (Nat.gcd i.natAbs j.natAbs : Nat)
def lowD (i j : Int) : Int := j / (Nat.gcd i.natAbs j.natAbs : Nat)
/-- what isinstance and == ask of the class -/
structure TalEq (K : PySem.W.Frag) (mg : Str → Option Value) (C : Addr) : Prop where
  g : mg "Tally" = some (.ref C)
  ins : ∀ (H : Hp) (a dx : Addr) (fs : List (Str × V)), H a = some (.ins C dx fs) → TyX K H (.ref a) (.ref C)
  self : PySem.W.kitOne K (.ref C) (.ref C) = some true
  tup : PySem.W.kitOne K (.type "tuple") (.ref C) = some false
  nself : PySem.W.notFirst K C (.ref C) = true
  ntup : PySem.W.notFirst K C (.type "tuple") = true
  ne : PySem.W.findIn K (.ref C) "__ne__" = some (some (.builtin "object.__ne__"))
  mro : PySem.W.mroIn K C (.type "object") = some true
def spLow : Sp := fun vs H Q _ => ∃ i j : Int, vs = [.int i, .int j] ∧ 0 < j ∧ j < 1073741824 ∧ ∀ H' p, Same H H' → H p = none → H' p = some (.tup [.int (lowN i j), .int (lowD i j)]) → Q (.ref p) H'
/-- the rate of a tally -/
def spRate (C : Addr) : Sp := fun vs H Q _ => ∃ (p : Addr) (u : Option Int) (f : List Stp) (a : List Sti) (t m : Int), vs = [.ref p] ∧ TalAt C H p u f a t m ∧ PartsT f a t m ∧
  (a = [] → Q .non H) ∧ (a ≠ [] → ∀ H' q, Same H H' → H q = none → H' q = some (.tup [.int (lowN m t), .int (lowD m t)]) → Q (.ref q) H')
def spEqT (K : PySem.W.Frag) (C : Addr) : Sp := fun vs H Q _ => ∃ (p : Addr) (u : Option Int) (f : List Stp) (a : List Sti) (t m : Int) (y : V), vs = [.ref p, y] ∧ TalAt C H p u f a t m ∧ f.length ≤ 2000 ∧ a.length ≤ 2000 ∧
  ((∃ t, TyX K H y t ∧ PySem.W.kitOne K t (.ref C) = some false ∧ Q (.bl false) H) ∨
   (∃ (q : Addr) (u2 : Option Int) (f2 : List Stp) (a2 : List Sti) (t2 m2 : Int), y = .ref q ∧ TalAt C H q u2 f2 a2 t2 m2 ∧ f2.length ≤ 2000 ∧ a2.length ≤ 2000 ∧ Q (.bl (decide (u = u2 ∧ f = f2 ∧ a = a2 ∧ t = t2 ∧ m = m2))) H))
theorem ups_inj {a b : List Sti} : a.map up = b.map up ↔ a = b := by
  refine ⟨fun h => ?_, fun h => by rw [h]⟩
  have := congrArg (List.map dn) h
  rw [List.map_map, List.map_map] at this
  have id_ : (dn ∘ up) = id := funext fun x => rfl
  rw [id_, List.map_id, List.map_id] at this
  exact this
section
variable {P : Program} {w : World} {K : PySem.W.Frag} {mg : Str → Option Value} {base : Heap} {C : Addr}
abbrev s_in_lowest_terms : Stmt := topS 13
theorem sc_in_lowest_terms : FnScope ["top", "bottom", "shared"] ["top", "bottom"] (defScope s_in_lowest_terms) := ⟨rfl, rfl, rfl, by decide +kernel, rfl, by decide +kernel, by decide +kernel⟩
theorem ok_low (D : Df K mg "in_lowest_terms" s_in_lowest_terms ["top", "bottom"]) (g : mg "gcd" = some (.builtin "math.gcd")) : Own P w K mg base "in_lowest_terms" 1 ["top", "bottom"] spLow := by
  refine D.own sc_in_lowest_terms (fun vs H Q E h => ?_) (fun fa cdv A outer s H vs Q E hr h => ?_)
  · obtain ⟨_, _, rfl, _⟩ := h
    rfl
  · obtain ⟨i, j, rfl, j0, j1, k⟩ := h
    refine ⟨_, (pss_cons (ps_set (i := 2) sc_in_lowest_terms.nd rfl (Or.inl rfl) (pe_callBfun cr_gcd (by rfl) g (pa_cons (pv 0) (pa_cons (pv 1) pa_nil))))
  (pss_one (ps_ret (pe_tup (pa_cons (pe_op op_fdiv (pv 0) (pv 2)) (pa_cons (pe_op op_fdiv (pv 1) (pv 2)) pa_nil)))))), ?_⟩
    have g0 : 0 < Nat.gcd i.natAbs j.natAbs := Nat.gcd_pos_of_pos_right _ (by omega)
    have g1 : Nat.gcd i.natAbs j.natAbs ≤ j.natAbs := Nat.gcd_le_right _ (by omega)
    walk_at "s"
    walk_at "new"
    rename_i p1 n1 H1 s1 e1
    walk_at "s"
    exact k _ _ s1 n1 e1
abbrev s_Tally_rate : Stmt := inClass (topS 39) 1
theorem sc_Tally_rate : FnScope ["self"] ["self"] (defScope s_Tally_rate) := ⟨rfl, rfl, rfl, by decide +kernel, rfl, by decide +kernel, by decide +kernel⟩
theorem ok_rate {f1 : Addr} {fd : FuncData} (F : Fun K "rate" "Tally.rate" s_Tally_rate f1 fd) (R : TalCls K C) (T : Txt mg) (o_in_lowest_terms : Own P w K mg base "in_lowest_terms" 1 ["top", "bottom"] spLow) : FnOk P w K mg base CX0 2 f1 fd ["self"] (spRate C) := by
  refine F.ok sc_Tally_rate (fun vs H Q E h => ?_) (fun cdv A outer s H vs Q E hr h => ?_)
  · obtain ⟨_, _, _, _, _, _, rfl, _⟩ := h
    rfl
  · obtain ⟨p, u, f, a, t, m, rfl, ⟨dx, pf, pa, xf, xa, h1, h2, h3, h4, h5⟩, ok, kn, ks⟩ := h
    refine ⟨_, (pss_one (ps_ret (pe_ifExp (pt_cmpR op_gt (pe_callB call_len_seq (by rfl) T.len PySem.boot_len (pa_cons (pe_fld (pv 0) rfl) pa_nil)) pe_int (nomark _)) (pe_own o_in_lowest_terms (hr.mono (by decide)) (pa_cons (pe_fld (pv 0) rfl) (pa_cons (pe_fld (pv 0) rfl) pa_nil))) pe_non))), ?_⟩
    have la := h5.len
    rw [List.length_map] at la
    have lta : (talF u pf pa t m).lookup ("again" : Str) = some (.ref pa) := rfl
    have ltt : (talF u pf pa t m).lookup ("turn" : Str) = some (.int t) := rfl
    have ltm : (talF u pf pa t m).lookup ("more" : Str) = some (.int m) := rfl
    refine ⟨_, rfl, p, C, dx, _, _, rfl, h1, R.cl, R.nA, lta, pa, xa, rfl, Or.inr (SqT.of h4), _, _, rfl, rfl, _, rfl, ?_⟩
    rw [la]
    by_cases ha : a = []
    · rw [decide_eq_false (by rw [ha]; decide)]
      refine iteF ?_
      exact kn ha
    · have := List.length_pos_iff.mpr ha
      rw [decide_eq_true (by omega)]
      refine iteT ?_
      have t0 := ok.t0 ha
      have t1 := ok.t1
      exact ⟨_, rfl, p, C, dx, _, _, rfl, h1, R.cl, R.nM, ltm, _, rfl, p, C, dx, _, _, rfl, h1, R.cl, R.nT, ltt, m, t, rfl, t0, by omega, ks ha⟩
abbrev s_Tally_by : Stmt := inClass (topS 39) 2
theorem sc_Tally_by : FnScope ["self", "time"] ["self", "time"] (defScope s_Tally_by) := ⟨rfl, rfl, rfl, by decide +kernel, rfl, by decide +kernel, by decide +kernel⟩
theorem ok_by {f1 : Addr} {fd : FuncData} (F : Fun K "by" "Tally.by" s_Tally_by f1 fd) (o_told_by : Own P w K mg base "told_by" 2 ["steps", "time"] (spTold C)) : FnOk P w K mg base CX0 3 f1 fd ["self", "time"] (spTold C) := by
  refine F.ok sc_Tally_by (fun vs H Q E h => ?_) (fun cdv A outer s H vs Q E hr h => ?_)
  · obtain ⟨_, _, _, _, _, _, _, rfl, _⟩ := h
    rfl
  · obtain ⟨p, u, f, a, t, m, time, rfl, h1, ok, k⟩ := h
    exact ⟨_, (pss_one (ps_ret (pe_own o_told_by (hr.mono (by decide)) (pa_cons (pv 0) (pa_cons (pv 1) pa_nil))))), _, rfl, _, rfl, p, u, f, a, t, m, time, rfl, h1, ok, k⟩
abbrev s_Tally_eq : Stmt := inClass (topS 39) 3
theorem sc_Tally_eq : FnScope ["self", "other"] ["self", "other"] (defScope s_Tally_eq) := ⟨rfl, rfl, rfl, by decide +kernel, rfl, by decide +kernel, by decide +kernel⟩
set_option maxHeartbeats 4000000 in
theorem ok_eq {f1 : Addr} {fd : FuncData} (F : Fun K "__eq__" "Tally.__eq__" s_Tally_eq f1 fd) (R : TalCls K C) (T : Txt mg) (Z : TalEq K mg C) : FnOk P w K mg base CX0 1 f1 fd ["self", "other"] (spEqT K C) := by
  refine F.ok sc_Tally_eq (fun vs H Q E h => ?_) (fun cdv A outer s H vs Q E hr h => ?_)
  · obtain ⟨_, _, _, _, _, _, _, rfl, _⟩ := h
    rfl
  · obtain ⟨p, u, f, a, t, m, y, rfl, ⟨dx, pf, pa, xf, xa, h1, h2, h3, h4, h5⟩, lf, la, k⟩ := h
    refine ⟨_, (pss_cons (ps_if (pt_not (pt_val (pe_callB call_isi (by rfl) T.isinstance (by decide +kernel) (pa_cons (pv 1) (pa_cons (pe_glob (v := .ref C) (by rfl) Z.g rfl) pa_nil)))))
    (pss_one (ps_ret pe_bl))
    pss_nil)
  (pss_cons (ps_if (PW.pt (pw_or (pt_cmpR op_ne (pe_fld (pv 0) rfl) (pe_fld (pv 1) rfl) (nomark _)) (pw_or (pt_cmpR (op_neD hr.units) (pe_fld (pv 0) rfl) (pe_fld (pv 1) rfl) (nomark _)) (pw_or1 (pt_cmpR (op_neD hr.units) (pe_fld (pv 0) rfl) (pe_fld (pv 1) rfl) (nomark _))))))
    (pss_one (ps_ret pe_bl))
    pss_nil)
  (pss_one (ps_ret (pe_and (pe_cmpR op_eq (pe_fld (pv 0) rfl) (pe_fld (pv 1) rfl) (nomark _)) (pe_one (pe_cmpR op_eq (pe_fld (pv 0) rfl) (pe_fld (pv 1) rfl) (nomark _)))))))), ?_⟩
    have ltu : (talF u pf pa t m).lookup ("under" : Str) = some (cV u) := rfl
    have ltf : (talF u pf pa t m).lookup ("first" : Str) = some (.ref pf) := rfl
    have lta : (talF u pf pa t m).lookup ("again" : Str) = some (.ref pa) := rfl
    have ltt : (talF u pf pa t m).lookup ("turn" : Str) = some (.int t) := rfl
    have ltm : (talF u pf pa t m).lookup ("more" : Str) = some (.int m) := rfl
    refine ⟨_, rfl, ?_⟩
    rcases k with ⟨ty, hty, kt, k⟩ | ⟨q, u2, f2, a2, t2, m2, rfl, ⟨dx2, pf2, pa2, xf2, xa2, g1, g2, g3, g4, g5⟩, lf2, la2, k⟩
    · refine ⟨_, _, _, _, false, rfl, .own _, hty, kt, ?_⟩
      walk_at "s"
      exact k
    · refine ⟨_, _, _, _, true, rfl, .own _, Z.ins _ _ _ _ g1, Z.self, ?_⟩
      have gtu : (talF u2 pf2 pa2 t2 m2).lookup ("under" : Str) = some (cV u2) := rfl
      have gtf : (talF u2 pf2 pa2 t2 m2).lookup ("first" : Str) = some (.ref pf2) := rfl
      have gta : (talF u2 pf2 pa2 t2 m2).lookup ("again" : Str) = some (.ref pa2) := rfl
      have gtt : (talF u2 pf2 pa2 t2 m2).lookup ("turn" : Str) = some (.int t2) := rfl
      have gtm : (talF u2 pf2 pa2 t2 m2).lookup ("more" : Str) = some (.int m2) := rfl
      have eqU : decide (cV u = cV u2) = decide (u = u2) := by
        cases u <;> cases u2
        · rfl
        · rfl
        · rfl
        · rename_i i j
          by_cases e : i = j
          · subst e
            simp
          · show decide (V.int i = V.int j) = _
            rw [decide_eq_false (fun z => e (V.int.inj z)), decide_eq_false (fun z => e (Option.some.inj z))]
      refine ⟨_, rfl, ?_⟩
      refine iteF ?_
      have no : ¬ (u = u2 ∧ f = f2 ∧ a = a2 ∧ t = t2 ∧ m = m2) → Q (.bl false) H := fun h => by
        rw [decide_eq_false h] at k
        exact k
      refine ⟨_, rfl, p, C, dx, _, _, rfl, h1, R.cl, R.nU, ltu, _, rfl, q, C, dx2, _, _, rfl, g1, R.cl, R.nU, gtu, (by cases u <;> cases u2 <;> rfl), _, rfl, ?_⟩
      rw [eqU]
      by_cases e1 : u = u2
      · rw [decide_eq_true e1]
        refine iteF ?_
        refine ⟨_, rfl, p, C, dx, _, _, rfl, h1, R.cl, R.nF, ltf, _, rfl, q, C, dx2, _, _, rfl, g1, R.cl, R.nF, gtf, ?_⟩
        refine rd_neT f f2 h2 h3 g2 g3 lf lf2 ⟨_, rfl, ?_⟩
        by_cases e2 : f = f2
        · rw [decide_eq_true e2]
          refine iteF ?_
          refine ⟨_, rfl, p, C, dx, _, _, rfl, h1, R.cl, R.nA, lta, _, rfl, q, C, dx2, _, _, rfl, g1, R.cl, R.nA, gta, ?_⟩
          refine rd_neT (a.map up) (a2.map up) h4 (by rw [List.map_map]; exact h5) g4 (by rw [List.map_map]; exact g5) (by rw [List.length_map]; exact la) (by rw [List.length_map]; exact la2) ⟨_, rfl, ?_⟩
          by_cases e3 : a = a2
          · rw [decide_eq_true (ups_inj.mpr e3)]
            refine iteF ?_
            refine ⟨_, rfl, p, C, dx, _, _, rfl, h1, R.cl, R.nT, ltt, _, rfl, q, C, dx2, _, _, rfl, g1, R.cl, R.nT, gtt, rfl, _, rfl, ?_⟩
            by_cases e4 : t = t2
            · rw [decide_eq_true (by rw [e4])]
              refine iteT ?_
              refine ⟨_, rfl, p, C, dx, _, _, rfl, h1, R.cl, R.nM, ltm, _, rfl, q, C, dx2, _, _, rfl, g1, R.cl, R.nM, gtm, rfl, ?_⟩
              by_cases e5 : m = m2
              · rw [decide_eq_true (by rw [e5])]
                rw [decide_eq_true ⟨e1, e2, e3, e4, e5⟩] at k
                exact k
              · rw [decide_eq_false (fun z => e5 (V.int.inj z))]
                exact no fun z => e5 z.2.2.2.2
            · rw [decide_eq_false (fun z => e4 (V.int.inj z))]
              refine iteF ?_
              exact no fun z => e4 z.2.2.2.1
          · rw [decide_eq_false (fun z => e3 (ups_inj.mp z))]
            refine iteT ?_
            exact no fun z => e3 z.2.2.1
        · rw [decide_eq_false e2]
          refine iteT ?_
          exact no fun z => e2 z.2.1
      · rw [decide_eq_false e1]
        refine iteT ?_
        exact no fun z => e1 z.1
end
end My

namespace My
open PySem PySem.Spec PyProof.Rows L2
local macro_rules | `(tactic| walk_at "side") => `(tactic| first | (dsimp only; omega) | exact ⟨by omega, by omega⟩ | exact Or.inl ⟨by omega, by omega⟩ | exact Or.inr ⟨by omega, by omega⟩ | decide)
local macro_rules | `(tactic| walk_at "sq") => `(tactic| first | assumption | exact SqL.of (by assumption) | exact SqT.of (by assumption) | (refine L2.Same.seq (by assumption) ?_; walk_at "sq") | (refine L2.Same.seqT (by assumption) ?_; walk_at "sq") | exact Or.inl (by walk_at "sq") | exact Or.inr (by walk_at "sq"))
local macro_rules | `(tactic| walk_at "1") => `(tactic| first
  | refine ⟨_, rfl, iteT ?_⟩
  | refine ⟨_, rfl, iteF ?_⟩
  | refine ⟨_, rfl, ?_⟩
  | refine ⟨_, _, rfl, rfl, (by walk_at "side"), ?_⟩
  | refine ⟨_, _, rfl, rfl, ?_⟩
  | refine ⟨_, _, _, _, true, rfl, .ty _, .base (.int _), kit_ty (a := "int") (by decide +kernel), ?_⟩
  | refine ⟨_, _, _, _, false, rfl, .ty _, .base (.int _), kit_ty (a := "int") (by decide +kernel), ?_⟩
  | refine ⟨_, _, rfl, (by walk_at "sq"), ?_⟩
  | refine ⟨_, _, _, _, rfl, rfl, (by walk_at "sq"), (by first | rfl | assumption), ?_⟩
  | refine Or.inl ⟨_, _, _, _, rfl, rfl, (by walk_at "sq"), (by first | rfl | assumption), ?_⟩
  | refine Or.inr (Or.inl ⟨_, _, _, _, rfl, rfl, (by walk_at "sq"), (by first | rfl | assumption), ?_⟩)
  | refine ⟨_, _, rfl, Or.inl ⟨(by walk_at "sq"), ?_⟩⟩
  | refine ⟨rfl, ?_⟩
  | refine iteT ?_
  | refine iteF ?_
  | refine ⟨_, _, _, _, _, rfl, (by assumption), (by assumption), (by assumption), (by assumption), ?_⟩
  | refine Or.inl ⟨_, rfl, ?_⟩
  | refine Or.inr ⟨_, rfl, ?_⟩
  | refine ⟨_, _, rfl, (by walk_at "side"), ?_⟩
  | refine ⟨_, _, rfl, ?_⟩)
local macro_rules | `(tactic| walk_at "fld") => `(tactic| skip)
local macro_rules | `(tactic| walk_at "s") => `(tactic| repeat walk_at "1")
local macro_rules | `(tactic| walk_at "size") => `(tactic| first | exact Nat.le_of_ble_eq_true rfl | (simp only [List.length_map, List.length_append, List.length_cons, List.length_nil]; omega))
local macro_rules | `(tactic| walk_at "new") => `(tactic| (first | refine ⟨(by walk_at "size"), fun p hp => ?_⟩ | refine fun p hp => ?_); (generalize hq : upd _ p _ = H1); (obtain ⟨s, e⟩ := new_facts hp hq); clear hq)
/-! drawn tallies -/
/-- steps behind one another, each at most three on -/
def ChainS : Sti → List Sti → Prop
  | _, [] => True
  | x, y :: r => (x.1 < y.1 ∧ y.1 ≤ x.1 + 3 ∧ x.2 < y.2 ∧ y.2 ≤ x.2 + 3) ∧ ChainS y r
def lastS (x : Sti) (ss : List Sti) : Sti := ss.getLast?.getD x
theorem chain_snoc : ∀ {x : Sti} {ss : List Sti} {y : Sti}, ChainS x ss → ((lastS x ss).1 < y.1 ∧ y.1 ≤ (lastS x ss).1 + 3 ∧ (lastS x ss).2 < y.2 ∧ y.2 ≤ (lastS x ss).2 + 3) → ChainS x (ss ++ [y])
  | x, [], y, _, h => ⟨h, trivial⟩
  | x, z :: r, y, hc, h => by
    have e : lastS x (z :: r) = lastS z r := by
      unfold lastS
      rw [List.getLast?_cons]
      rfl
    rw [e] at h
    exact ⟨hc.1, chain_snoc hc.2 h⟩
theorem last_snoc (x y : Sti) (ss : List Sti) : lastS x (ss ++ [y]) = y := by
  unfold lastS
  rw [List.getLast?_concat]
  rfl
def spSteps : Sp := fun vs H Q _ => ∃ (b : Addr) (t c : Int) (n : Nat), vs = [.ref b, .int t, .int c, .int n] ∧ BoxAt H b ∧ n ≤ 10 ∧
  ∀ H' L ss, ChainS (t, c) ss → ss.length = n → Bx b H H' → BoxAt H' b → H L = none → Dv (off b H') (.ref L) (.list (ss.map siD)) → Q (.ref L) H'
section
variable {P : Program} {w : World} {K : PySem.W.Frag} {mg : Str → Option Value} {base : Heap}
abbrev s_law_steps : Stmt := topS 53
theorem sc_law_steps : FnScope ["box", "time", "count", "many", "found", "turn"] ["box", "time", "count", "many"] (defScope s_law_steps) := ⟨rfl, rfl, rfl, by decide +kernel, rfl, by decide +kernel, by decide +kernel⟩
set_option maxHeartbeats 4000000 in
theorem ok_steps (D : Df K mg "_law_steps" s_law_steps ["box", "time", "count", "many"]) (T : Txt mg) (o_law_take : Own P w K mg base "_law_take" 1 ["box", "many"] spTake) : Own P w K mg base "_law_steps" 2 ["box", "time", "count", "many"] spSteps := by
  refine D.own sc_law_steps (fun vs H Q E h => ?_) (fun fa cdv A outer s H vs Q E hr h => ?_)
  · obtain ⟨_, _, _, _, rfl, _⟩ := h
    rfl
  · obtain ⟨b, t, c, n, rfl, hb, hn, k⟩ := h
    refine ⟨_, (pss_cons (ps_set (i := 4) sc_law_steps.nd rfl (Or.inl rfl) (pe_lst pa_nil))
  (pss_cons (ps_for PassesOwn.never rfl (pi_range1 (by rfl) T.range (pa_cons (pv 3) pa_nil)) (pg_name (i := 5) sc_law_steps.nd rfl (Or.inl rfl))
    (pss_cons (ps_par (i := 1) (j := 2) (by rfl) sc_law_steps.nd rfl rfl (by decide) rfl rfl (pa_cons (pe_op op_add (pe_op op_add (pv 1) pe_int) (pe_own o_law_take (hr.mono (by decide)) (pa_cons (pv 0) (pa_cons pe_int pa_nil)))) (pa_cons (pe_op op_add (pe_op op_add (pv 2) pe_int) (pe_own o_law_take (hr.mono (by decide)) (pa_cons (pv 0) (pa_cons pe_int pa_nil)))) pa_nil)) (by rfl))
      (pss_one (ps_expr (pe_bm PySem.F.plainAttrs_list PySem.F.slot_list_append PySem.F.type_list_append mt_append (pv 4) (pa_cons (pe_tup (pa_cons (pv 1) (pa_cons (pv 2) pa_nil))) pa_nil))))))
  (pss_one (ps_ret (pv 4))))), ?_⟩
    refine ⟨Nat.zero_le _, fun L nL => ?_⟩
    generalize hq : upd H L _ = H1
    obtain ⟨s1, e1⟩ := new_facts nL hq
    clear hq
    have Lb : L ≠ b := hb.ne nL
    refine ⟨_, rfl, _, rfl, by omega, by omega, ?_⟩
    refine for_range (lo := 0) (n := n) (fun i σ' H' => ∃ (ss : List Sti) (acc : List V) (y : Option V), σ' = [some (.ref b), some (.int (lastS (t, c) ss).1), some (.int (lastS (t, c) ss).2), some (.int (n : Nat)), some (.ref L), y] ∧ Bx b H H' ∧ BoxAt H' b ∧ H' L = some (.lst acc) ∧ DvAll (off L (off b H')) acc (ss.map siD) ∧ ChainS (t, c) ss ∧ ss.length = i)
      ⟨[], [], none, rfl, Bx.of s1, hb.same s1, e1, .nil, trivial, rfl⟩ ?_ ?_
    · rintro i σ' H' hi ⟨ss, acc, y, rfl, bx, box, eL, hA, hc, hl⟩
      generalize hls : lastS (t, c) ss = ls at *
      obtain ⟨lt, lc⟩ := ls
      refine ⟨_, rfl, _, _, rfl, rfl, _, rfl, b, 3, rfl, by decide, by decide, box, fun H2 d1 hd1 bx2 box2 => ⟨_, _, rfl, rfl, _, rfl, _, _, rfl, rfl, _, rfl, b, 3, rfl, by decide, by decide, box2, fun H3 d2 hd2 bx3 box3 => ⟨_, _, rfl, rfl, _, _, rfl, ?_⟩⟩⟩
      have eL3 := bx3 _ _ Lb (bx2 _ _ Lb eL)
      refine ⟨_, rfl, Or.inl ⟨rfl, _, SqL.of eL3⟩, _, rfl, _, rfl, Nat.le_of_ble_eq_true rfl, fun p np => ?_⟩
      have pL : p ≠ L := fun z => by rw [z, eL3] at np; cases np
      have pb : p ≠ b := box3.ne np
      have hal : acc.length = i := by rw [hA.len, List.length_map, hl]
      refine ⟨L, acc, _, rfl, rfl, by rw [upd_ne pL.symm]; exact eL3, small2000 (by omega), ss ++ [(lt + 1 + (d1 : Int), lc + 1 + (d2 : Int))], acc ++ [.ref p], some (.int (0 + (i : Int))), ?_, ?_, ?_, upd_same, ?_, ?_, ?_⟩
      · rw [last_snoc]
        rfl
      · intro a o n e
        have aL : a ≠ L := ne_of_none e nL
        have e3 := bx3 _ _ n (bx2 _ _ n (bx _ _ n e))
        have ap : a ≠ p := ne_of_none e3 np
        rw [upd_ne aL, upd_ne ap]
        exact e3
      · obtain ⟨x1, x2, x3, x0, eb⟩ := box3
        exact ⟨x1, x2, x3, x0, by rw [upd_ne Lb.symm, upd_ne pb.symm]; exact eb⟩
      · have sg : Same (off L (off b H')) (off L (off b H3)) := off_off (off_bx (bx2.trans bx3))
        have hA3 := hA.same sg
        rw [off_upd_ne Lb, off_upd_ne pb, off_upd, off_upd_ne pL, List.map_append]
        have s2 : Same (off L (off b H3)) (upd (off L (off b H3)) p (.tup [.int (lt + 1 + (d1 : Int)), .int (lc + 1 + (d2 : Int))])) := same_upd (off_none (off_none np))
        exact (hA3.same s2).app (.cons (si_dv (x := (lt + 1 + (d1 : Int), lc + 1 + (d2 : Int))) upd_same) .nil)
      · refine chain_snoc hc ?_
        rw [hls]
        exact ⟨by show lt < lt + 1 + (d1 : Int); omega, by show lt + 1 + (d1 : Int) ≤ lt + 3; omega, by show lc < lc + 1 + (d2 : Int); omega, by show lc + 1 + (d2 : Int) ≤ lc + 3; omega⟩
      · rw [List.length_append, List.length_singleton, hl]
    · rintro σ' H' ⟨ss, acc, y, rfl, bx, box, eL, hA, hc, hl⟩
      refine ⟨_, rfl, k H' L ss hc hl bx box nL (.lst (by rw [off_ne Lb]; exact eL) (hA.same off_same) (by rw [List.length_map]; omega))⟩
end
end My

namespace My
open PySem PySem.Spec PyProof.Rows L2
local macro_rules | `(tactic| walk_at "side") => `(tactic| first | (dsimp only; omega) | exact ⟨by omega, by omega⟩ | exact Or.inl ⟨by omega, by omega⟩ | exact Or.inr ⟨by omega, by omega⟩ | decide)
local macro_rules | `(tactic| walk_at "sq") => `(tactic| first | assumption | exact SqL.of (by assumption) | exact SqT.of (by assumption) | (refine L2.Same.seq (by assumption) ?_; walk_at "sq") | (refine L2.Same.seqT (by assumption) ?_; walk_at "sq") | exact Or.inl (by walk_at "sq") | exact Or.inr (by walk_at "sq"))
local macro_rules | `(tactic| walk_at "1") => `(tactic| first
  | refine ⟨_, rfl, iteT ?_⟩
  | refine ⟨_, rfl, iteF ?_⟩
  | refine ⟨_, rfl, ?_⟩
  | refine ⟨_, _, rfl, rfl, (by walk_at "side"), ?_⟩
  | refine ⟨_, _, rfl, rfl, ?_⟩
  | refine ⟨_, _, _, _, true, rfl, .ty _, .base (.int _), kit_ty (a := "int") (by decide +kernel), ?_⟩
  | refine ⟨_, _, _, _, false, rfl, .ty _, .base (.int _), kit_ty (a := "int") (by decide +kernel), ?_⟩
  | refine ⟨_, _, rfl, (by walk_at "sq"), ?_⟩
  | refine ⟨_, _, _, _, rfl, rfl, (by walk_at "sq"), (by first | rfl | assumption), ?_⟩
  | refine Or.inl ⟨_, _, _, _, rfl, rfl, (by walk_at "sq"), (by first | rfl | assumption), ?_⟩
  | refine Or.inr (Or.inl ⟨_, _, _, _, rfl, rfl, (by walk_at "sq"), (by first | rfl | assumption), ?_⟩)
  | refine ⟨_, _, rfl, Or.inl ⟨(by walk_at "sq"), ?_⟩⟩
  | refine ⟨rfl, ?_⟩
  | refine iteT ?_
  | refine iteF ?_
  | refine ⟨_, _, _, _, _, rfl, (by assumption), (by assumption), (by assumption), (by assumption), ?_⟩
  | refine Or.inl ⟨_, rfl, ?_⟩
  | refine Or.inr ⟨_, rfl, ?_⟩
  | refine ⟨_, _, rfl, (by walk_at "side"), ?_⟩
  | refine ⟨_, _, rfl, ?_⟩)
local macro_rules | `(tactic| walk_at "fld") => `(tactic| skip)
local macro_rules | `(tactic| walk_at "s") => `(tactic| repeat walk_at "1")
local macro_rules | `(tactic| walk_at "size") => `(tactic| first | exact Nat.le_of_ble_eq_true rfl | (simp only [List.length_map, List.length_append, List.length_cons, List.length_nil]; omega))
local macro_rules | `(tactic| walk_at "new") => `(tactic| (first | refine ⟨(by walk_at "size"), fun p hp => ?_⟩ | refine fun p hp => ?_); (generalize hq : upd _ p _ = H1); (obtain ⟨s, e⟩ := new_facts hp hq); clear hq)
/-! a drawn tally -/
inductive DrawnR : Option Int → List Stp → List Sti → Int → Int → Prop
  | none : DrawnR none [] [] 0 0
  | ends (u t0 d : Int) (ss : List Sti) (hu : 0 ≤ u ∧ u ≤ 3) (ht : -4 ≤ t0 ∧ t0 ≤ 3) (hc : ChainS (t0, u) ss) (hl : ss.length ≤ 3) (hd : 1 ≤ d ∧ d ≤ 3) : DrawnR (some u) (ss.map up ++ [((lastS (t0, u) ss).1 + d, none)]) [] 0 0
  | turns (u t0 dt dm : Int) (ss as : List Sti) (x y : Sti) (hu : 0 ≤ u ∧ u ≤ 3) (ht : -4 ≤ t0 ∧ t0 ≤ 3) (hc : ChainS (t0, u) ss) (hl : ss.length ≤ 3) (ha : ChainS (lastS (t0, u) ss) as) (hla : as.length ≤ 3) (hx : as.head? = some x) (hy : as.getLast? = some y)
      (hdt : 1 ≤ dt ∧ dt ≤ 3) (hdm : 1 ≤ dm ∧ dm ≤ 3) : DrawnR (some u) (ss.map up) as (y.1 - x.1 + dt) (y.2 - x.2 + dm)
def rawD (u : Option Int) (f : List Stp) (a : List Sti) (t m : Int) : PyData := .tuple [cD u, .list (f.map stD), .list (a.map siD), .int t, .int m]
/-- a drawn tally's lists are its own -/
def NewLs (H H' : Hp) (v : V) : Prop := ∃ r u pf pa t m, v = .ref r ∧ H' r = some (.tup [u, .ref pf, .ref pa, t, m]) ∧ H pf = none ∧ H pa = none
theorem bx_free {b c : Addr} {H H' : Hp} (s : Bx b H H') (n : H' c = none) (ne : c ≠ b) : H c = none := by
  cases e : H c with
  | none => rfl
  | some o => rw [s _ _ ne e] at n; cases n
def spRaw : Sp := fun vs H Q _ => ∃ b : Addr, vs = [.ref b] ∧ BoxAt H b ∧ ∀ H' v u f a t m, DrawnR u f a t m → Bx b H H' → BoxAt H' b → NewLs H H' v → Dv (off b H') v (rawD u f a t m) → Q v H'
theorem Dv.lstE {H : Hp} {v : V} {ds : List PyData} (h : Dv H v (.list ds)) : ∃ a xs, v = .ref a ∧ H a = some (.lst xs) ∧ DvAll H xs ds ∧ ds.length ≤ 2000 := by
  cases h with
  | lst e h sm => exact ⟨_, _, rfl, e, h, sm⟩
section
variable {P : Program} {w : World} {K : PySem.W.Frag} {mg : Str → Option Value} {base : Heap}
abbrev s_law_raw : Stmt := topS 54
theorem sc_law_raw : FnScope ["box", "under", "time", "first", "count", "form", "again", "turn"] ["box"] (defScope s_law_raw) := ⟨rfl, rfl, rfl, by decide +kernel, rfl, by decide +kernel, by decide +kernel⟩
set_option maxHeartbeats 8000000 in
theorem ok_raw (D : Df K mg "_law_raw" s_law_raw ["box"]) (o_law_take : Own P w K mg base "_law_take" 1 ["box", "many"] spTake) (o_law_steps : Own P w K mg base "_law_steps" 2 ["box", "time", "count", "many"] spSteps) : Own P w K mg base "_law_raw" 3 ["box"] spRaw := by
  refine D.own sc_law_raw (fun vs H Q E h => ?_) (fun fa cdv A outer s H vs Q E hr h => ?_)
  · obtain ⟨_, rfl, _⟩ := h
    rfl
  · obtain ⟨b, rfl, hb, k⟩ := h
    refine ⟨_, (pss_cons (ps_par (i := 1) (j := 2) (by rfl) sc_law_raw.nd rfl rfl (by decide) rfl rfl (pa_cons (pe_own o_law_take (hr.mono (by decide)) (pa_cons (pv 0) (pa_cons pe_int pa_nil))) (pa_cons (pe_op op_sub (pe_own o_law_take (hr.mono (by decide)) (pa_cons (pv 0) (pa_cons pe_int pa_nil))) pe_int) pa_nil)) (by rfl))
  (pss_cons (ps_set (i := 3) sc_law_raw.nd rfl (Or.inl rfl) (pe_own o_law_steps (hr.mono (by decide)) (pa_cons (pv 0) (pa_cons (pv 2) (pa_cons (pv 1) (pa_cons (pe_own o_law_take (hr.mono (by decide)) (pa_cons (pv 0) (pa_cons pe_int pa_nil))) pa_nil))))))
  (C8.pss_cut (ps_asg (pe_ifExp (pt_cmpR (op_neD hr.units) (pv 3) (pe_lst pa_nil) (nomark _)) (pe_ix ix_list (pv 3) (pe_un un_neg pe_int) (fun _ _ => rfl)) (pe_tup (pa_cons (pv 2) (pa_cons (pv 1) pa_nil)))) (pg_tup (by rfl) (pgs_cons (pg_name (i := 2) sc_law_raw.nd rfl (Or.inl rfl)) (pgs_cons (pg_name (i := 4) sc_law_raw.nd rfl (Or.inl rfl)) pgs_nil))))
  (pss_cons (ps_set (i := 5) sc_law_raw.nd rfl (Or.inl rfl) (pe_own o_law_take (hr.mono (by decide)) (pa_cons (pv 0) (pa_cons pe_int pa_nil))))
  (pss_cons (ps_if (pt_cmpR op_eq (pv 5) pe_int (nomark _))
    (pss_one (ps_ret (pe_tup (pa_cons pe_non (pa_cons (pe_lst pa_nil) (pa_cons (pe_lst pa_nil) (pa_cons pe_int (pa_cons pe_int pa_nil))))))))
    pss_nil)
  (pss_cons (ps_if (pt_cmpR op_lt (pv 5) pe_int (nomark _))
    (pss_one (ps_ret (pe_tup (pa_cons (pv 1) (pa_cons (pe_op op_cat (pv 3) (pe_lst (pa_cons (pe_tup (pa_cons (pe_op op_add (pe_op op_add (pv 2) pe_int) (pe_own o_law_take (hr.mono (by decide)) (pa_cons (pv 0) (pa_cons pe_int pa_nil)))) (pa_cons pe_non pa_nil))) pa_nil))) (pa_cons (pe_lst pa_nil) (pa_cons pe_int (pa_cons pe_int pa_nil))))))))
    pss_nil)
  (pss_cons (ps_set (i := 6) sc_law_raw.nd rfl (Or.inl rfl) (pe_own o_law_steps (hr.mono (by decide)) (pa_cons (pv 0) (pa_cons (pv 2) (pa_cons (pv 4) (pa_cons (pe_op op_add pe_int (pe_own o_law_take (hr.mono (by decide)) (pa_cons (pv 0) (pa_cons pe_int pa_nil)))) pa_nil))))))
  (pss_cons (ps_set (i := 7) sc_law_raw.nd rfl (Or.inl rfl) (pe_op op_add (pe_op op_add (pe_op op_sub (pe_ix ix_tup (pe_ix ix_list (pv 6) (pe_un un_neg pe_int) (fun _ _ => rfl)) pe_int (fun _ _ => rfl)) (pe_ix ix_tup (pe_ix ix_list (pv 6) pe_int (fun _ _ => rfl)) pe_int (fun _ _ => rfl))) pe_int) (pe_own o_law_take (hr.mono (by decide)) (pa_cons (pv 0) (pa_cons pe_int pa_nil)))))
  (pss_one (ps_ret (pe_tup (pa_cons (pv 1) (pa_cons (pv 3) (pa_cons (pv 6) (pa_cons (pv 7) (pa_cons (pe_op op_add (pe_op op_add (pe_op op_sub (pe_ix ix_tup (pe_ix ix_list (pv 6) (pe_un un_neg pe_int) (fun _ _ => rfl)) pe_int (fun _ _ => rfl)) (pe_ix ix_tup (pe_ix ix_list (pv 6) pe_int (fun _ _ => rfl)) pe_int (fun _ _ => rfl))) pe_int) (pe_own o_law_take (hr.mono (by decide)) (pa_cons (pv 0) (pa_cons pe_int pa_nil)))) pa_nil)))))))))))))))), ?_⟩
    refine ⟨_, rfl, b, 4, rfl, by decide, by decide, hb, fun H1 u hu bx1 b1 => ⟨_, rfl, b, 8, rfl, by decide, by decide, b1, fun H2 t ht bx2 b2 => ⟨_, _, rfl, rfl, _, _, rfl, ?_⟩⟩⟩
    refine ⟨_, rfl, _, rfl, _, rfl, _, rfl, b, 4, rfl, by decide, by decide, b2, fun H3 n hn bx3 b3 => ?_⟩
    refine ⟨b, (t : Int) - 4, u, n, rfl, b3, by omega, fun H4 L ss hc hl bx4 b4 nL0 hd => ?_⟩
    have bx14 := bx1.trans (bx2.trans (bx3.trans bx4))
    obtain ⟨L', xs, eq, eL, hX, _⟩ := hd.lstE
    cases eq
    have Lb := (off_of eL).1
    have eL := (off_of eL).2
    have hXl := hX.len
    rw [List.length_map] at hXl
    obtain ⟨l, hl'⟩ : ∃ l, l = lastS ((t : Int) - 4, (u : Int)) ss := ⟨_, rfl⟩
    refine ⟨fun σ' H' => σ' = [some (.ref b), some (.int (u : Nat)), some (.int l.1), some (.ref L), some (.int l.2), none, none, none] ∧ Bx b H4 H' ∧ BoxAt H' b, ?_, ?_⟩
    · refine ⟨_, rfl, Nat.zero_le _, fun p np => ?_⟩
      have s5 := same_upd (o := .lst []) np
      have d1 : Dv (upd H4 p (.lst [])) (.ref L) (.list (ss.map siD)) := hd.same (off_same.trans s5)
      have d2 : Dv (upd H4 p (.lst [])) (.ref p) (.list (([] : List Sti).map siD)) := .lst upd_same .nil (by decide)
      refine ⟨_, _, d1.dp, d2.dp, shaped_si _, shaped_si _, ?_⟩
      rw [eqv_sil]
      refine ⟨_, rfl, ?_⟩
      rcases List.eq_nil_or_concat ss with he | ⟨ss', y, he⟩
      · rw [decide_eq_true he]
        refine iteF ?_
        refine ⟨_, rfl, _, rfl, Nat.le_of_ble_eq_true rfl, fun q nq => ?_⟩
        refine ⟨q, _, rfl, SqT.of upd_same, rfl, _, _, rfl, _, _, rfl, rfl, ?_, (Bx.of s5).trans (Bx.of (same_upd nq)), (b4.same s5).same (same_upd nq)⟩
        rw [hl', he]
        rfl
      · rw [List.concat_eq_append] at he
        rw [decide_eq_false (by rw [he]; simp)]
        refine iteT ?_
        have hXs := hX
        rw [he, List.map_append] at hXs
        obtain ⟨x, ex, dx⟩ := DvAll.last hXs
        obtain ⟨q, rfl, eq⟩ := dv_si dx
        refine ⟨_, rfl, _, rfl, _, _, _, _, rfl, rfl, SqL.of (s5 _ _ eL), atI_neg1 ex, q, _, rfl, SqT.of (s5 _ _ (off_of eq).2), rfl, _, _, rfl, _, _, rfl, rfl, ?_, Bx.of s5, b4.same s5⟩
        rw [hl', he, last_snoc]
        rfl
    · rintro σ' H5 ⟨rfl, bx5, b5⟩
      have bx15 := bx14.trans bx5
      have hd5 := hd.same (off_bx bx5)
      refine ⟨_, rfl, b, 12, rfl, by decide, by decide, b5, fun H6 fm hfm bx6 b6 => ?_⟩
      have bx16 := bx15.trans bx6
      have hd6 := hd5.same (off_bx bx6)
      refine ⟨_, rfl, rfl, _, rfl, ?_⟩
      refine ite2 (fun c => ?_) (fun c => ?_)
      · refine ⟨Nat.zero_le _, fun p np => ⟨Nat.zero_le _, fun q nq => ⟨Nat.le_of_ble_eq_true rfl, fun r nr => ?_⟩⟩⟩
        generalize hq : upd H6 p _ = H7 at *
        obtain ⟨s7, e7⟩ := new_facts np hq
        clear hq
        generalize hq : upd H7 q _ = H8 at *
        obtain ⟨s8, e8⟩ := new_facts nq hq
        clear hq
        generalize hq : upd H8 r _ = H9 at *
        obtain ⟨s9, e9⟩ := new_facts nr hq
        clear hq
        have b7 := b6.same s7
        have b8 := b7.same s8
        have s69 := s7.trans (s8.trans s9)
        have ng : ∀ {x : Addr} {o : HO}, H9 x = some o → x ≠ b → off b H9 x = some o := fun e n => by rw [off_ne n]; exact e
        exact k H9 _ none [] [] 0 0 .none (bx16.trans (Bx.of s69)) (b6.same s69) ⟨r, _, p, q, _, _, rfl, e9, bx_free bx16 np (b6.ne np), bx_free (bx16.trans (Bx.of s7)) nq (b7.ne nq)⟩ (.tup (ng e9 (b8.ne nr)) (.cons .non (.cons (.lst (ng (s9 _ _ (s8 _ _ e7)) (b6.ne np)) .nil (by decide)) (.cons (.lst (ng (s9 _ _ e8) (b7.ne nq)) .nil (by decide)) (.cons (.int _) (.cons (.int _) .nil))))) (by decide))
      · have big : ∀ {n : Nat}, n ≤ 4000 → n ≤ sizeLine := fun h => Nat.le_of_lt (small2000 h)
        have hL6 := hd6.lstE
        refine ⟨_, rfl, _, _, rfl, rfl, _, rfl, ?_⟩
        refine ite2 (fun c3 => ?_) (fun c3 => ?_)
        · obtain ⟨L', xs6, eq, eL6, hX6, _⟩ := hL6
          cases eq
          have eL6' := (off_of eL6).2
          have hX6l := hX6.len
          rw [List.length_map] at hX6l
          refine ⟨_, rfl, _, rfl, _, rfl, _, _, rfl, rfl, _, rfl, b, 3, rfl, by decide, by decide, b6, fun H7 d hd7 bx7 b7 => ⟨_, _, rfl, rfl, Nat.le_of_ble_eq_true rfl, fun p np => ⟨Nat.le_of_ble_eq_true rfl, fun q nq => ?_⟩⟩⟩
          generalize hq : upd H7 p _ = H8 at *
          obtain ⟨s8, e8⟩ := new_facts np hq
          clear hq
          generalize hq : upd H8 q _ = H9 at *
          obtain ⟨s9, e9⟩ := new_facts nq hq
          clear hq
          have eL9 := s9 _ _ (s8 _ _ (bx7 _ _ Lb eL6'))
          refine ⟨L, q, _, _, rfl, rfl, eL9, e9, big (by rw [List.length_singleton]; omega), fun r nr => ?_⟩
          generalize hq : upd H9 r _ = H10 at *
          obtain ⟨s10, e10⟩ := new_facts nr hq
          clear hq
          refine ⟨Nat.zero_le _, fun z nz => ⟨Nat.le_of_ble_eq_true rfl, fun g ng => ?_⟩⟩
          generalize hq : upd H10 z _ = H11 at *
          obtain ⟨s11, e11⟩ := new_facts nz hq
          clear hq
          generalize hq : upd H11 g _ = H12 at *
          obtain ⟨s12, e12⟩ := new_facts ng hq
          clear hq
          have b8 := b7.same s8
          have b9 := b8.same s9
          have b10 := b9.same s10
          have b11 := b10.same s11
          have b12 := b11.same s12
          have s712 := s8.trans (s9.trans (s10.trans (s11.trans s12)))
          have nn : ∀ {x : Addr} {o : HO}, H12 x = some o → x ≠ b → off b H12 x = some o := fun e n => by rw [off_ne n]; exact e
          have hX12 := hX6.same (off_bx (bx7.trans (Bx.of s712)))
          have dl : 1 ≤ (1 : Int) + (d : Int) ∧ (1 : Int) + (d : Int) ≤ 3 := ⟨by omega, by omega⟩
          have key := k H12 (.ref g) _ _ _ _ _ (.ends (u : Int) ((t : Int) - 4) (1 + (d : Int)) ss ⟨by omega, by omega⟩ ⟨by omega, by omega⟩ hc (by omega) dl) (bx16.trans (bx7.trans (Bx.of s712))) b12 ⟨g, _, r, z, _, _, rfl, e12, bx_free (bx16.trans (bx7.trans (Bx.of (s8.trans s9)))) nr (b9.ne nr), bx_free (bx16.trans (bx7.trans (Bx.of (s8.trans (s9.trans s10))))) nz (b10.ne nz)⟩
          refine key ?_
          refine .tup (nn e12 (b11.ne ng)) (.cons (.int _) (.cons (.lst (nn (s12 _ _ (s11 _ _ e10)) (b9.ne nr)) ?_ ?_) (.cons (.lst (nn (s12 _ _ e11) (b10.ne nz)) .nil (by decide)) (.cons (.int _) (.cons (.int _) .nil))))) (by show 5 ≤ 2000; decide)
          · rw [List.map_append, List.map_map]
            refine hX12.app (.cons ?_ .nil)
            refine pr_dv (x := prO _) ?_
            rw [nn (s12 _ _ (s11 _ _ (s10 _ _ (s9 _ _ e8)))) (b7.ne np), ← hl']
            show some (HO.tup [.int (l.1 + 1 + (d : Int)), .non]) = some (HO.tup [.int (l.1 + (1 + (d : Int))), .non])
            rw [Int.add_assoc]
          · rw [List.length_map, List.length_append, List.length_map, List.length_singleton]
            omega
        · refine ⟨_, rfl, _, rfl, _, rfl, _, rfl, b, 3, rfl, by decide, by decide, b6, fun H7 n2 hn2 bx7 b7 => ⟨_, _, rfl, rfl, b, l.1, l.2, n2 + 1, ?_, b7, by omega, fun H8 M as hca hla bx8 b8 nM0 hdM => ?_⟩⟩
          · show [V.ref b, V.int l.1, V.int l.2, V.int (1 + (n2 : Int))] = [V.ref b, V.int l.1, V.int l.2, V.int ((n2 + 1 : Nat) : Int)]
            rw [show ((n2 + 1 : Nat) : Int) = 1 + (n2 : Int) by omega]
          · obtain ⟨M', xm, eq, eM, hXM, _⟩ := hdM.lstE
            cases eq
            have Mb := (off_of eM).1
            have eM' := (off_of eM).2
            obtain ⟨x, hx⟩ : ∃ x, as.head? = some x := by
              cases as with
              | nil => exact absurd hla (by simp)
              | cons x r => exact ⟨x, rfl⟩
            obtain ⟨y, hy⟩ : ∃ y, as.getLast? = some y := by
              cases hg : as.getLast? with
              | none =>
                rw [List.getLast?_eq_none_iff] at hg
                rw [hg] at hx
                cases hx
              | some y => exact ⟨y, rfl⟩
            obtain ⟨z1, hz1, q1, e1⟩ : ∃ z1, atI xm 0 = some z1 ∧ ∃ q1, z1 = .ref q1 ∧ H8 q1 = some (.tup [.int x.1, .int x.2]) := by
              cases as with
              | nil => cases hx
              | cons x' r =>
                cases hx
                obtain ⟨z1, hz1, dz1⟩ := DvAll.hd (d := siD x) (ds := r.map siD) hXM
                obtain ⟨q1, rfl, e1⟩ := dv_si dz1
                exact ⟨_, hz1, q1, rfl, (off_of e1).2⟩
            obtain ⟨z2, hz2, q2, e2⟩ : ∃ z2, atI xm (-1) = some z2 ∧ ∃ q2, z2 = .ref q2 ∧ H8 q2 = some (.tup [.int y.1, .int y.2]) := by
              obtain ⟨ys, rfl⟩ := List.getLast?_eq_some_iff.mp hy
              have hXs := hXM
              rw [List.map_append] at hXs
              obtain ⟨z2, hz2, dz2⟩ := DvAll.last hXs
              obtain ⟨q2, rfl, e2⟩ := dv_si dz2
              exact ⟨_, atI_neg1 hz2, q2, rfl, (off_of e2).2⟩
            obtain ⟨rfl, e1⟩ := e1
            obtain ⟨rfl, e2⟩ := e2
            have q1b : q1 ≠ b := fun z => by
              obtain ⟨_, _, _, _, eb⟩ := b8
              rw [z, eb] at e1
              cases e1
            have q2b : q2 ≠ b := fun z => by
              obtain ⟨_, _, _, _, eb⟩ := b8
              rw [z, eb] at e2
              cases e2
            refine ⟨_, rfl, _, rfl, _, _, _, _, rfl, rfl, SqL.of eM', hz2, _, _, _, _, rfl, rfl, SqT.of e2, rfl, ?_⟩
            refine ⟨_, rfl, _, _, _, _, rfl, rfl, SqL.of eM', hz1, _, _, _, _, rfl, rfl, SqT.of e1, rfl, _, _, rfl, rfl, _, _, rfl, rfl, _, rfl, b, 3, rfl, by decide, by decide, b8, fun H9 d1 hd1 bx9 b9 => ⟨_, _, rfl, rfl, ?_⟩⟩
            have eM9 := bx9 _ _ Mb eM'
            have e19 := bx9 _ _ q1b e1
            have e29 := bx9 _ _ q2b e2
            refine ⟨_, rfl, _, rfl, _, rfl, _, rfl, _, rfl, _, rfl, _, _, _, _, rfl, rfl, SqL.of eM9, hz2, _, _, _, _, rfl, rfl, SqT.of e29, rfl, ?_⟩
            refine ⟨_, rfl, _, _, _, _, rfl, rfl, SqL.of eM9, hz1, _, _, _, _, rfl, rfl, SqT.of e19, rfl, _, _, rfl, rfl, _, _, rfl, rfl, _, rfl, b, 3, rfl, by decide, by decide, b9, fun H10 d2 hd2 bx10 b10 => ⟨_, _, rfl, rfl, Nat.le_of_ble_eq_true rfl, fun g ng => ?_⟩⟩
            generalize hq : upd H10 g _ = H11 at *
            obtain ⟨s11, e11⟩ := new_facts ng hq
            clear hq
            have b11 := b10.same s11
            have bx811 := bx9.trans (bx10.trans (Bx.of s11))
            have bx711 := bx7.trans (bx8.trans bx811)
            have key := k H11 (.ref g) _ _ _ _ _ (.turns (u : Int) ((t : Int) - 4) (1 + (d1 : Int)) (1 + (d2 : Int)) ss as x y ⟨by omega, by omega⟩ ⟨by omega, by omega⟩ hc (by omega) (by rw [← hl']; exact hca) (by omega) hx hy ⟨by omega, by omega⟩ ⟨by omega, by omega⟩) (bx16.trans bx711) b11 ⟨g, _, L, M, _, _, rfl, e11, bx_free (bx1.trans (bx2.trans bx3)) nL0 (b3.ne nL0), bx_free (bx16.trans bx7) nM0 (b7.ne nM0)⟩
            refine key ?_
            have e11' : off b H11 g = some (.tup [.int (u : Nat), .ref L, .ref M, .int (y.1 - x.1 + 1 + (d1 : Int)), .int (y.2 - x.2 + 1 + (d2 : Int))]) := by
              rw [off_ne (b10.ne ng)]
              exact e11
            rw [Int.add_assoc, Int.add_assoc] at e11'
            refine .tup e11' (.cons (.int _) (.cons ?_ (.cons (hdM.same (off_bx bx811)) (.cons (.int _) (.cons (.int _) .nil))))) (by show 5 ≤ 2000; decide)
            have := hd6.same (off_bx bx711)
            rw [List.map_map]
            exact this
end
end My

namespace My
open PySem PySem.Spec PyProof.Rows L2
local macro_rules | `(tactic| walk_at "side") => `(tactic| first | (dsimp only; omega) | exact ⟨by omega, by omega⟩ | exact Or.inl ⟨by omega, by omega⟩ | exact Or.inr ⟨by omega, by omega⟩ | decide)
local macro_rules | `(tactic| walk_at "sq") => `(tactic| first | assumption | exact SqL.of (by assumption) | exact SqT.of (by assumption) | (refine L2.Same.seq (by assumption) ?_; walk_at "sq") | (refine L2.Same.seqT (by assumption) ?_; walk_at "sq") | exact Or.inl (by walk_at "sq") | exact Or.inr (by walk_at "sq"))
local macro_rules | `(tactic| walk_at "1") => `(tactic| first
  | refine ⟨_, rfl, iteT ?_⟩
  | refine ⟨_, rfl, iteF ?_⟩
  | refine ⟨_, rfl, ?_⟩
  | refine ⟨_, _, rfl, rfl, (by walk_at "side"), ?_⟩
  | refine ⟨_, _, rfl, rfl, ?_⟩
  | refine ⟨_, _, _, _, true, rfl, .ty _, .base (.int _), kit_ty (a := "int") (by decide +kernel), ?_⟩
  | refine ⟨_, _, _, _, false, rfl, .ty _, .base (.int _), kit_ty (a := "int") (by decide +kernel), ?_⟩
  | refine ⟨_, _, rfl, (by walk_at "sq"), ?_⟩
  | refine ⟨_, _, _, _, rfl, rfl, (by walk_at "sq"), (by first | rfl | assumption), ?_⟩
  | refine Or.inl ⟨_, _, _, _, rfl, rfl, (by walk_at "sq"), (by first | rfl | assumption), ?_⟩
  | refine Or.inr (Or.inl ⟨_, _, _, _, rfl, rfl, (by walk_at "sq"), (by first | rfl | assumption), ?_⟩)
  | refine ⟨_, _, rfl, Or.inl ⟨(by walk_at "sq"), ?_⟩⟩
  | refine ⟨rfl, ?_⟩
  | refine iteT ?_
  | refine iteF ?_
  | refine ⟨_, _, _, _, _, rfl, (by assumption), (by assumption), (by assumption), (by assumption), ?_⟩
  | refine Or.inl ⟨_, rfl, ?_⟩
  | refine Or.inr ⟨_, rfl, ?_⟩
  | refine ⟨_, _, rfl, (by walk_at "side"), ?_⟩
  | refine ⟨_, _, rfl, ?_⟩)
local macro_rules | `(tactic| walk_at "fld") => `(tactic| skip)
local macro_rules | `(tactic| walk_at "s") => `(tactic| repeat walk_at "1")
local macro_rules | `(tactic| walk_at "size") => `(tactic| first | exact Nat.le_of_ble_eq_true rfl | (simp only [List.length_map, List.length_append, List.length_cons, List.length_nil]; omega))
local macro_rules | `(tactic| walk_at "new") => `(tactic| (first | refine ⟨(by walk_at "size"), fun p hp => ?_⟩ | refine fun p hp => ?_); (generalize hq : upd _ p _ = H1); (obtain ⟨s, e⟩ := new_facts hp hq); clear hq)
/-! what the law says of a time -/
def firstAt (time : Int) (c : Option Int) (x : Stp) : Option Int := if x.1 ≤ time then x.2 else c
def againAt (time tt mm : Int) (c : Option Int) (x : Sti) : Option Int := if x.1 + tt ≤ time then some (x.2 + mm) else c
def atL (u : Option Int) (f : List Stp) (a : List Sti) (t m time : Int) : Option Int :=
  match a with
  | [] => f.foldl (firstAt time) u
  | x :: r => if x.1 ≤ time then (x :: r).foldl (againAt time ((time - x.1) / t * t) ((time - x.1) / t * m)) (f.foldl (firstAt time) u) else f.foldl (firstAt time) u
def spAt : Sp := fun vs H Q _ => ∃ (v : V) (u : Option Int) (f : List Stp) (a : List Sti) (t m time : Int), vs = [v, .int time] ∧ Dv H v (rawD u f a t m) ∧ (a ≠ [] → 0 < t) ∧ 0 ≤ t ∧ t < 1000000 ∧ 0 ≤ m ∧ m < 1000000 ∧ f.length ≤ 1000 ∧ a.length ≤ 1000 ∧ ∀ H', Same H H' → Q (cV (atL u f a t m time)) H'
theorem Dv.rawE {H : Hp} {v : V} {u : Option Int} {f : List Stp} {a : List Sti} {t m : Int} (h : Dv H v (rawD u f a t m)) : ∃ r pf pa xf xa, v = .ref r ∧ H r = some (.tup [cV u, .ref pf, .ref pa, .int t, .int m]) ∧ H pf = some (.lst xf) ∧ DvAll H xf (f.map stD) ∧ H pa = some (.lst xa) ∧ DvAll H xa (a.map siD) := by
  cases h with
  | @tup r xs _ er hx _ =>
    obtain ⟨y0, ys, rfl, i0, hx⟩ := hx.inv
    obtain ⟨y1, ys, rfl, i1, hx⟩ := hx.inv
    obtain ⟨y2, ys, rfl, i2, hx⟩ := hx.inv
    obtain ⟨y3, ys, rfl, i3, hx⟩ := hx.inv
    obtain ⟨y4, ys, rfl, i4, hx⟩ := hx.inv
    obtain rfl := hx.inv0
    cases i3
    cases i4
    rw [dv_c i0] at er
    cases i1 with
    | @lst pf xf _ epf hxf _ =>
      cases i2 with
      | @lst pa xa _ epa hxa _ => exact ⟨r, pf, pa, xf, xa, rfl, er, epf, hxf, epa, hxa⟩
section
variable {P : Program} {w : World} {K : PySem.W.Frag} {mg : Str → Option Value} {base : Heap}
abbrev s_law_at : Stmt := topS 55
theorem sc_law_at : FnScope ["raw", "time", "under", "first", "again", "turn", "more", "found", "spot", "count", "turns"] ["raw", "time"] (defScope s_law_at) := ⟨rfl, rfl, rfl, by decide +kernel, rfl, by decide +kernel, by decide +kernel⟩
set_option maxHeartbeats 8000000 in
theorem ok_at (D : Df K mg "_law_at" s_law_at ["raw", "time"]) (T : Txt mg) : Own P w K mg base "_law_at" 1 ["raw", "time"] spAt := by
  refine D.own sc_law_at (fun vs H Q E h => ?_) (fun fa cdv A outer s H vs Q E hr h => ?_)
  · obtain ⟨_, _, _, _, _, _, _, rfl, _⟩ := h
    rfl
  · obtain ⟨v, u, f, a, t, m, time, rfl, hd, t0, t2, t1, m0, m1, lf, la, k⟩ := h
    obtain ⟨r, pf, pa, xf, xa, rfl, er, epf, hxf, epa, hxa⟩ := hd.rawE
    refine ⟨_, (pss_cons (ps_asg (pv 0) (pg_tup (by rfl) (pgs_cons (pg_name (i := 2) sc_law_at.nd rfl (Or.inl rfl)) (pgs_cons (pg_name (i := 3) sc_law_at.nd rfl (Or.inl rfl)) (pgs_cons (pg_name (i := 4) sc_law_at.nd rfl (Or.inl rfl)) (pgs_cons (pg_name (i := 5) sc_law_at.nd rfl (Or.inl rfl)) (pgs_cons (pg_name (i := 6) sc_law_at.nd rfl (Or.inl rfl)) pgs_nil)))))))
  (pss_cons (ps_set (i := 7) sc_law_at.nd rfl (Or.inl rfl) (pv 2))
  (pss_cons (ps_for PassesOwn.never rfl (pi_list (pv 3)) (pg_tup (by rfl) (pgs_cons (pg_name (i := 8) sc_law_at.nd rfl (Or.inl rfl)) (pgs_cons (pg_name (i := 9) sc_law_at.nd rfl (Or.inl rfl)) pgs_nil)))
    (pss_one (ps_if (pt_cmpR op_le (pv 8) (pv 1) (nomark _))
        (pss_one (ps_set (i := 7) sc_law_at.nd rfl (Or.inl rfl) (pv 9)))
        pss_nil)))
  (pss_cons (ps_if (PW.pt (pw_and (pt_cmpR (op_neD hr.units) (pv 4) (pe_lst pa_nil) (nomark _)) (pw_and1 (pt_cmpR op_ge (pv 1) (pe_ix ix_tup (pe_ix ix_list (pv 4) pe_int (fun _ _ => rfl)) pe_int (fun _ _ => rfl)) (nomark _)))))
    (pss_cons (ps_set (i := 10) sc_law_at.nd rfl (Or.inl rfl) (pe_op op_fdiv (pe_callTy call_int1 (by rfl) T.int (by decide +kernel) (pa_cons (pe_op op_sub (pv 1) (pe_ix ix_tup (pe_ix ix_list (pv 4) pe_int (fun _ _ => rfl)) pe_int (fun _ _ => rfl))) pa_nil)) (pv 5)))
      (pss_one (ps_for PassesOwn.never rfl (pi_list (pv 4)) (pg_tup (by rfl) (pgs_cons (pg_name (i := 8) sc_law_at.nd rfl (Or.inl rfl)) (pgs_cons (pg_name (i := 9) sc_law_at.nd rfl (Or.inl rfl)) pgs_nil)))
        (pss_one (ps_if (pt_cmpR op_le (pe_op op_add (pv 8) (pe_op op_mul (pv 10) (pv 5))) (pv 1) (nomark _))
            (pss_one (ps_set (i := 7) sc_law_at.nd rfl (Or.inl rfl) (pe_op op_add (pv 9) (pe_op op_mul (pv 10) (pv 6)))))
            pss_nil)))))
    pss_nil)
  (pss_one (ps_ret (pv 7))))))), ?_⟩
    have hlf := hxf.len
    have hla := hxa.len
    rw [List.length_map] at hlf hla
    refine ⟨_, rfl, r, _, rfl, SqT.of er, rfl, _, _, rfl, _, _, rfl, _, _, rfl, _, _, rfl, _, _, rfl, rfl, ?_⟩
    refine ⟨_, rfl, ?_⟩
    refine ⟨_, rfl, pf, rfl, ⟨_, SqL.of epf⟩, for_seq (seqIt_l (SqL.of epf)) (fun i σ' H' => ∃ y z : Option V, σ' = [some (.ref r), some (.int time), some (cV u), some (.ref pf), some (.ref pa), some (.int t), some (.int m), some (cV ((f.take i).foldl (firstAt time) u)), y, z, none] ∧ H' = H)
      ⟨none, none, rfl, rfl⟩ (fun i σ' H' ⟨_, _, _, e⟩ => e ▸ Same.refl _) ?_ ?_⟩
    · rintro i x σ' H' hx ⟨y, z, rfl, rfl⟩
      obtain ⟨d, ed, hdx⟩ := hxf.get hx
      rw [List.getElem?_map] at ed
      obtain ⟨q, eq, rfl⟩ := Option.map_eq_some_iff.mp ed
      obtain ⟨pq, rfl, epq⟩ := dv_pr (x := prO q) hdx
      have et : (f.take (i + 1)).foldl (firstAt time) u = firstAt time ((f.take i).foldl (firstAt time) u) q := by
        rw [List.take_add_one, eq, List.foldl_append]
        rfl
      refine ⟨pq, _, rfl, SqT.of epq, rfl, _, _, rfl, _, _, rfl, rfl, ?_⟩
      refine ⟨_, rfl, _, rfl, _, _, rfl, rfl, _, rfl, ?_⟩
      refine ite2 (fun c => ?_) (fun c => ?_)
      · have c' : q.1 ≤ time := of_decide_eq_true c
        refine ⟨_, rfl, some (.int q.1), some (cV q.2), ?_, rfl⟩
        rw [et, firstAt, if_pos c']
        rfl
      · have c' : ¬ q.1 ≤ time := fun z => c (decide_eq_true z)
        refine ⟨some (.int q.1), some (cV q.2), ?_, rfl⟩
        rw [et, firstAt, if_neg c']
        rfl
    · rintro σ' H' ⟨y, z, rfl, rfl⟩
      rw [hlf, List.take_length]
      generalize hf0 : f.foldl (firstAt time) u = c0
      refine ⟨_, rfl, Nat.zero_le _, fun p np => ?_⟩
      have s1 := same_upd (o := .lst []) np
      have d1 : Dv (upd H' p (.lst [])) (.ref pa) (.list (a.map siD)) := .lst (s1 _ _ epa) (hxa.same s1) (by rw [List.length_map]; omega)
      have d2 : Dv (upd H' p (.lst [])) (.ref p) (.list (([] : List Sti).map siD)) := .lst upd_same .nil (by decide)
      refine ⟨_, _, d1.dp, d2.dp, shaped_si _, shaped_si _, ?_⟩
      rw [eqv_sil]
      refine ⟨_, rfl, ?_⟩
      have epa1 := s1 _ _ epa
      have hxa1 := hxa.same s1
      generalize upd H' p (.lst []) = H1 at *
      cases a with
      | nil =>
        rw [decide_eq_true rfl]
        refine iteF ?_
        refine iteF ?_
        refine ⟨_, rfl, ?_⟩
        have := k H1 s1
        rw [show atL u f [] t m time = c0 from hf0] at this
        exact this
      | cons x rr =>
        rw [decide_eq_false (by simp)]
        refine iteT ?_
        have t0 := t0 (by simp)
        obtain ⟨w1, ws, rfl, dw, _⟩ := DvAll.inv (d := siD x) (ds := rr.map siD) hxa1
        obtain ⟨q, rfl, eq⟩ := dv_si dw
        refine ⟨_, rfl, _, rfl, _, _, _, _, rfl, rfl, SqL.of epa1, atI_nat (j := 0) rfl, _, _, _, _, rfl, rfl, SqT.of eq, rfl, _, _, rfl, rfl, _, rfl, ?_⟩
        refine ite2 (fun c => ?_) (fun c => ?_)
        · have c' : x.1 ≤ time := of_decide_eq_true c
          have el : atL u f (x :: rr) t m time = (x :: rr).foldl (againAt time ((time - x.1) / t * t) ((time - x.1) / t * m)) c0 := by
            show (if x.1 ≤ time then _ else _) = _
            rw [if_pos c', hf0]
          refine ⟨_, rfl, _, rfl, _, _, _, _, rfl, rfl, SqL.of epa1, atI_nat (j := 0) rfl, _, _, _, _, rfl, rfl, SqT.of eq, rfl, _, _, rfl, rfl, Or.inl ⟨_, rfl, _, rfl, _, _, rfl, rfl, ⟨t0, by omega⟩, ?_⟩⟩
          obtain ⟨tn, htn⟩ : ∃ tn, (time - x.1) / t = tn := ⟨_, rfl⟩
          rw [htn] at el
          have cm : ∀ i j : Int, 0 ≤ j → j < 1000000 → CMul i j := fun i j h1 h2 => Or.inr ⟨by omega, by omega⟩
          refine ⟨_, rfl, pa, rfl, ⟨_, SqL.of epa1⟩, for_seq (seqIt_l (SqL.of epa1)) (fun i σ' H2 => ∃ y z : Option V, σ' = [some (.ref r), some (.int time), some (cV u), some (.ref pf), some (.ref pa), some (.int t), some (.int m), some (cV (((x :: rr).take i).foldl (againAt time (tn * t) (tn * m)) c0)), y, z, some (.int tn)] ∧ H2 = H1)
            ⟨y, z, by rw [← htn]; rfl, rfl⟩ (fun i σ' H2 ⟨_, _, _, e⟩ => e ▸ Same.refl _) ?_ ?_⟩
          · rintro i x2 σ' H2 hx2 ⟨y, z, rfl, rfl⟩
            obtain ⟨d, ed, hdx⟩ := hxa1.get hx2
            rw [List.getElem?_map] at ed
            obtain ⟨q2, eq2, rfl⟩ := Option.map_eq_some_iff.mp ed
            obtain ⟨pq, rfl, epq⟩ := dv_si hdx
            have et : ((x :: rr).take (i + 1)).foldl (againAt time (tn * t) (tn * m)) c0 = againAt time (tn * t) (tn * m) (((x :: rr).take i).foldl (againAt time (tn * t) (tn * m)) c0) q2 := by
              rw [List.take_add_one, eq2, List.foldl_append]
              rfl
            refine ⟨pq, _, rfl, SqT.of epq, rfl, _, _, rfl, _, _, rfl, rfl, ?_⟩
            refine ⟨_, rfl, _, rfl, _, rfl, _, _, rfl, rfl, cm _ _ t2 t1, _, _, rfl, rfl, _, rfl, _, _, rfl, rfl, _, rfl, ?_⟩
            refine ite2 (fun c2 => ?_) (fun c2 => ?_)
            · have c2' : q2.1 + tn * t ≤ time := of_decide_eq_true c2
              refine ⟨_, rfl, _, rfl, _, rfl, _, _, rfl, rfl, cm _ _ m0 m1, _, _, rfl, rfl, some (.int q2.1), some (.int q2.2), ?_, rfl⟩
              rw [et, againAt, if_pos c2']
              rfl
            · have c2' : ¬ q2.1 + tn * t ≤ time := fun z => c2 (decide_eq_true z)
              refine ⟨some (.int q2.1), some (.int q2.2), ?_, rfl⟩
              rw [et, againAt, if_neg c2']
              rfl
          · rintro σ' H2 ⟨y, z, rfl, rfl⟩
            have hw : (V.ref q :: ws).length = (x :: rr).length := hla
            rw [hw, List.take_length]
            refine ⟨_, rfl, ?_⟩
            have := k H2 s1
            rw [el] at this
            exact this
        · have c' : ¬ x.1 ≤ time := fun z => c (decide_eq_true z)
          refine ⟨_, rfl, ?_⟩
          have := k H1 s1
          rw [show atL u f (x :: rr) t m time = c0 by show (if x.1 ≤ time then _ else _) = _; rw [if_neg c', hf0]] at this
          exact this
end
end My

namespace My
open PySem PySem.Spec PyProof.Rows L2
/-! the steps of a tally as one endless sequence -/
theorem mv_mv (l g l' g' : Int) (x : Sti) : mv l g (mv l' g' x) = mv (l' + l) (g' + g) x := by
  show ((x.1 + l') + l, (x.2 + g') + g) = (x.1 + (l' + l), x.2 + (g' + g))
  rw [Int.add_assoc, Int.add_assoc]
theorem mv_zero (x : Sti) : mv 0 0 x = x := by
  show (x.1 + 0, x.2 + 0) = x
  rw [Int.add_zero, Int.add_zero]
theorem mv_comm (l g l' g' : Int) (x : Sti) : mv l g (mv l' g' x) = mv l' g' (mv l g x) := by
  rw [mv_mv, mv_mv, Int.add_comm l', Int.add_comm g']
theorem mv_inj {l g : Int} {x y : Sti} (h : mv l g x = mv l g y) : x = y := by
  have h1 : x.1 + l = y.1 + l := congrArg Prod.fst h
  have h2 : x.2 + g = y.2 + g := congrArg Prod.snd h
  exact Prod.ext (by omega) (by omega)
structure IsSeq (g a : List Sti) (t m : Int) (s : Nat → Sti) : Prop where
  pos : 0 < a.length
  st : ∀ n x, (g ++ a)[n]? = some x → s n = x
  per : ∀ n, g.length ≤ n → s (n + a.length) = mv t m (s n)
def PerAt (s : Nat → Sti) (b p : Nat) (l g : Int) : Prop := ∀ n, b ≤ n → s (n + p) = mv l g (s n)
theorem PerAt.iter {s : Nat → Sti} {b p : Nat} {l g : Int} (h : PerAt s b p l g) {n : Nat} (hn : b ≤ n) : ∀ j : Nat, s (n + j * p) = mv ((j : Int) * l) ((j : Int) * g) (s n)
  | 0 => by rw [Nat.zero_mul, Nat.add_zero, Int.natCast_zero, Int.zero_mul, Int.zero_mul, mv_zero]
  | j + 1 => by
    rw [show n + (j + 1) * p = (n + j * p) + p by rw [Nat.succ_mul, Nat.add_assoc], h _ (by omega), PerAt.iter h hn j, mv_mv]
    rw [show ((j + 1 : Nat) : Int) = (j : Int) + 1 by omega, Int.add_mul, Int.one_mul, Int.add_mul, Int.one_mul]
section
variable {g a : List Sti} {t m : Int} {s s' : Nat → Sti}
theorem IsSeq.perAt (S : IsSeq g a t m s) : PerAt s g.length a.length t m := S.per
theorem IsSeq.of (S : IsSeq g a t m s) {n : Nat} (h : n < g.length + a.length) : (g ++ a)[n]? = some (s n) := by
  have l : n < (g ++ a).length := by rw [List.length_append]; exact h
  have e : (g ++ a)[n]? = some (g ++ a)[n] := List.getElem?_eq_getElem l
  rw [e, S.st n _ e]
theorem IsSeq.uniq (S : IsSeq g a t m s) (S' : IsSeq g a t m s') : ∀ n, s n = s' n := by
  intro n
  induction n using Nat.strongRecOn with
  | _ n ih =>
    by_cases h : n < g.length + a.length
    · exact Option.some.inj ((S.of h).symm.trans (S'.of h))
    · have p := S.pos
      obtain ⟨k, rfl⟩ : ∃ k, n = k + a.length := ⟨n - a.length, by omega⟩
      rw [S.per k (by omega), S'.per k (by omega), ih k (by omega)]
/-- the sequence -/
def sq (g a : List Sti) (t m : Int) (n : Nat) : Sti := if n < g.length then (g[n]?).getD (0, 0) else mv ((((n - g.length) / a.length : Nat) : Int) * t) ((((n - g.length) / a.length : Nat) : Int) * m) ((a[(n - g.length) % a.length]?).getD (0, 0))
theorem sq_is (h : 0 < a.length) : IsSeq g a t m (sq g a t m) := by
  refine ⟨h, fun n x e => ?_, fun n hn => ?_⟩
  · unfold sq
    by_cases c : n < g.length
    · rw [if_pos c]
      rw [List.getElem?_append_left c] at e
      rw [e]
      rfl
    · rw [if_neg c]
      rw [List.getElem?_append_right (by omega)] at e
      have l : n - g.length < a.length := (List.getElem?_eq_some_iff.mp e).1
      rw [Nat.div_eq_of_lt l, Nat.mod_eq_of_lt l, e, Int.natCast_zero, Int.zero_mul, Int.zero_mul, mv_zero]
      rfl
  · unfold sq
    rw [if_neg (by omega), if_neg (by omega), show n + a.length - g.length = (n - g.length) + a.length by omega, Nat.add_div_right _ h, Nat.add_mod_right, mv_mv]
    rw [show (((n - g.length) / a.length + 1 : Nat) : Int) = (((n - g.length) / a.length : Nat) : Int) + 1 by omega, Int.add_mul, Int.one_mul, Int.add_mul, Int.one_mul]
theorem IsSeq.roll {x : Sti} {r : List Sti} (S : IsSeq g (x :: r) t m s) : IsSeq (g ++ [x]) (r ++ [mv t m x]) t m s := by
  have hl : (r ++ [mv t m x]).length = (x :: r).length := by rw [List.length_append]; rfl
  have eq : (g ++ [x]) ++ (r ++ [mv t m x]) = (g ++ x :: r) ++ [mv t m x] := by simp
  refine ⟨by rw [hl]; exact S.pos, fun n y e => ?_, fun n hn => ?_⟩
  · rw [eq] at e
    by_cases c : n < (g ++ x :: r).length
    · rw [List.getElem?_append_left c] at e
      exact S.st n y e
    · rw [List.getElem?_append_right (by omega)] at e
      have h0 : n - (g ++ x :: r).length = 0 := by
        have := (List.getElem?_eq_some_iff.mp e).1
        rw [List.length_singleton] at this
        omega
      rw [h0] at e
      have e : mv t m x = y := Option.some.inj e
      have en : n = g.length + (x :: r).length := by rw [List.length_append] at c h0; omega
      rw [en, S.per _ (Nat.le_refl _), S.st g.length x (by rw [List.getElem?_append_right (Nat.le_refl _), Nat.sub_self]; rfl), e]
  · rw [hl]
    rw [List.length_append] at hn
    exact S.per n (by omega)
theorem IsSeq.short (S : IsSeq g a t m s) {b : Nat} (hb : b ≤ g.length) (h : ∀ n, b ≤ n → n < g.length → (g ++ a)[n + a.length]? = ((g ++ a)[n]?).map (mv t m)) : IsSeq ((g ++ a).take b) (((g ++ a).drop b).take a.length) t m s := by
  have lw : (g ++ a).length = g.length + a.length := List.length_append
  have l1 : ((g ++ a).take b).length = b := by rw [List.length_take]; omega
  have l2 : (((g ++ a).drop b).take a.length).length = a.length := by rw [List.length_take, List.length_drop]; omega
  have eq : (g ++ a).take b ++ ((g ++ a).drop b).take a.length = (g ++ a).take (b + a.length) := by rw [List.take_add]
  refine ⟨by rw [l2]; exact S.pos, fun n x e => ?_, fun n hn => ?_⟩
  · rw [eq] at e
    have hlt : n < b + a.length := by
      have := (List.getElem?_eq_some_iff.mp e).1
      rw [List.length_take] at this
      omega
    rw [List.getElem?_take_of_lt hlt] at e
    exact S.st n x e
  · rw [l2]
    rw [l1] at hn
    by_cases c : n < g.length
    · have e := h n hn c
      rw [S.of (n := n) (by omega), S.of (n := n + a.length) (by omega)] at e
      exact Option.some.inj e
    · exact S.per n (by omega)
theorem IsSeq.least (S : IsSeq g a t m s) {p : Nat} (F : FitsS a t m p) : IsSeq g (a.take p) (t * p / a.length) (m * p / a.length) s := by
  obtain ⟨c, hc⟩ := F.dvd
  have p0 := F.pos
  have l0 := S.pos
  have c0 : 0 < c := by
    rcases Nat.eq_zero_or_pos c with z | z
    · rw [z, Nat.mul_zero] at hc
      omega
    · exact z
  have lp : p ≤ a.length := Nat.le_of_dvd l0 F.dvd
  have num : ∀ z : Int, (z * p) % a.length = 0 → z = (c : Int) * (z * p / a.length) := fun z hz => by
    have h1 := Int.mul_ediv_add_emod (z * p) a.length
    rw [hz, Int.add_zero] at h1
    generalize z * p / (a.length : Int) = q at h1 ⊢
    have hp : (p : Int) ≠ 0 := by omega
    refine Int.eq_of_mul_eq_mul_right hp ?_
    rw [← h1, hc, Int.natCast_mul, Int.mul_assoc, Int.mul_assoc, Int.mul_comm (p : Int), Int.mul_assoc]
  have ht := num t F.n1
  have hm := num m F.n2
  have feq := F.eq
  generalize t * p / (a.length : Int) = t' at *
  generalize m * p / (a.length : Int) = m' at *
  have lt : (a.take p).length = p := by rw [List.length_take]; omega
  -- one step within the first turn
  have st1 : ∀ i, i + p < a.length → s (g.length + i + p) = mv t' m' (s (g.length + i)) := fun i hi => by
    have e := congrArg (fun l => l[i]?) feq
    simp only [List.getElem?_drop, List.getElem?_map] at e
    rw [List.getElem?_take_of_lt (by omega), Nat.add_comm p i] at e
    have e1 := S.of (n := g.length + i) (by omega)
    have e2 := S.of (n := g.length + (i + p)) (by omega)
    rw [List.getElem?_append_right (by omega), Nat.add_sub_cancel_left] at e1 e2
    rw [e1, e2] at e
    rw [Nat.add_assoc]
    exact Option.some.inj e
  have iter1 : ∀ (j i : Nat), i + j * p < a.length → s (g.length + i + j * p) = mv ((j : Int) * t') ((j : Int) * m') (s (g.length + i)) := by
    intro j
    induction j with
    | zero =>
      intro i _
      rw [Nat.zero_mul, Nat.add_zero, Int.natCast_zero, Int.zero_mul, Int.zero_mul, mv_zero]
    | succ j ih =>
      intro i hi
      have e : i + (j + 1) * p = (i + j * p) + p := by rw [Nat.succ_mul, Nat.add_assoc]
      rw [e] at hi
      rw [Nat.add_assoc, e, ← Nat.add_assoc, st1 (i + j * p) hi, ← Nat.add_assoc, ih i (by omega), mv_mv]
      rw [show ((j + 1 : Nat) : Int) = (j : Int) + 1 by omega, Int.add_mul, Int.one_mul, Int.add_mul, Int.one_mul]
  have first : ∀ i, i < a.length → s (g.length + i + p) = mv t' m' (s (g.length + i)) := fun i hi => by
    by_cases h : i + p < a.length
    · exact st1 i h
    · obtain ⟨r, hr⟩ : ∃ r, i + p = r + a.length := ⟨i + p - a.length, by omega⟩
      have hcp : a.length = (c - 1) * p + p := by
        rw [hc, ← Nat.succ_mul, show (c - 1).succ = c by omega, Nat.mul_comm]
      have hi2 : i = r + (c - 1) * p := by omega
      rw [Nat.add_assoc, hr, ← Nat.add_assoc, S.per _ (by omega), hi2, ← Nat.add_assoc, iter1 (c - 1) r (by omega), mv_mv]
      have ec : ((c - 1 : Nat) : Int) = (c : Int) - 1 := by omega
      rw [ec, Int.sub_mul, Int.one_mul, Int.sub_mul, Int.one_mul, ← ht, ← hm, show t - t' + t' = t by omega, show m - m' + m' = m by omega]
  refine ⟨by rw [lt]; exact p0, fun n x e => ?_, fun n hn => ?_⟩
  · by_cases cc : n < g.length
    · rw [List.getElem?_append_left cc] at e
      exact S.st n x (by rw [List.getElem?_append_left cc]; exact e)
    · rw [List.getElem?_append_right (by omega)] at e
      have hl := (List.getElem?_eq_some_iff.mp e).1
      rw [lt] at hl
      rw [List.getElem?_take_of_lt hl] at e
      exact S.st n x (by rw [List.getElem?_append_right (by omega)]; exact e)
  · rw [lt]
    obtain ⟨i, rfl⟩ := Nat.le.dest hn
    induction i using Nat.strongRecOn with
    | _ i ih =>
      by_cases h : i < a.length
      · exact first i h
      · obtain ⟨k, rfl⟩ : ∃ k, i = k + a.length := ⟨i - a.length, by omega⟩
        have e1 : g.length + (k + a.length) + p = (g.length + k + p) + a.length := by omega
        rw [e1, S.per _ (by omega), ih k (by omega) (by omega), ← Nat.add_assoc, S.per _ (by omega), mv_comm]
end
end My

namespace My
open PySem PySem.Spec PyProof.Rows L2
/-! the least form is one -/
/-- p: the least number of steps after which all comes again, from some step on -/
def MinP (s : Nat → Sti) (p : Nat) : Prop := ∀ p' b l g, 0 < p' → p' < p → ¬ PerAt s b p' l g
section
variable {g a g2 a2 : List Sti} {t m t2 m2 : Int} {s : Nat → Sti}
theorem PerAt.up {b b' p : Nat} {l h : Int} (P : PerAt s b p l h) (hb : b ≤ b') : PerAt s b' p l h := fun n hn => P n (by omega)
/-- two numbers of steps: their difference -/
theorem PerAt.sub {b p q : Nat} {l h l2 h2 : Int} (P : PerAt s b p l h) (Q : PerAt s b q l2 h2) (lt : p < q) : PerAt s (b + p) (q - p) (l2 - l) (h2 - h) := fun n hn => by
  obtain ⟨k, rfl⟩ : ∃ k, n = k + p := ⟨n - p, by omega⟩
  rw [show k + p + (q - p) = k + q by omega, Q k (by omega), P k (by omega), mv_mv]
  rw [show l + (l2 - l) = l2 by omega, show h + (h2 - h) = h2 by omega]
theorem per_gcd : ∀ (N p q b : Nat) (l h l2 h2 : Int), p + q ≤ N → 0 < p → 0 < q → PerAt s b p l h → PerAt s b q l2 h2 → ∃ b' l' h', PerAt s b' (Nat.gcd p q) l' h'
  | 0, p, q, b, l, h, l2, h2, hN, hp, hq, P, Q => by omega
  | N + 1, p, q, b, l, h, l2, h2, hN, hp, hq, P, Q => by
    rcases Nat.lt_trichotomy p q with c | c | c
    · obtain ⟨b', l', h', R⟩ := per_gcd N p (q - p) (b + p) l h _ _ (by omega) hp (by omega) (P.up (by omega)) (P.sub Q c)
      have e : Nat.gcd p (q - p) = Nat.gcd p q := Nat.gcd_sub_self_right (by omega)
      rw [e] at R
      exact ⟨b', l', h', R⟩
    · subst c
      rw [Nat.gcd_self]
      exact ⟨b, l, h, P⟩
    · obtain ⟨b', l', h', R⟩ := per_gcd N (p - q) q (b + q) _ _ l2 h2 (by omega) (by omega) hq (Q.sub P c) (Q.up (by omega))
      have e : Nat.gcd (p - q) q = Nat.gcd p q := Nat.gcd_sub_self_left (by omega)
      rw [e] at R
      exact ⟨b', l', h', R⟩
/-- what comes again from some step on does so from the first one on -/
theorem IsSeq.back (S : IsSeq g a t m s) {b p : Nat} {l h : Int} (P : PerAt s b p l h) : PerAt s g.length p l h := fun n hn => by
  have key := S.perAt.iter (n := n) hn b
  have key2 := S.perAt.iter (n := n + p) (by omega) b
  have big : b ≤ n + b * a.length := by
    have := Nat.mul_le_mul_left b S.pos
    omega
  have e := P (n + b * a.length) big
  rw [key, show n + b * a.length + p = n + p + b * a.length by omega, key2, mv_comm] at e
  exact mv_inj e
theorem IsSeq.fits (S : IsSeq g a t m s) {p : Nat} {l h : Int} (hp : 0 < p) (d : p ∣ a.length) (P : PerAt s g.length p l h) : FitsS a t m p := by
  obtain ⟨c, hc⟩ := d
  have l0 := S.pos
  have e1 := P.iter (n := g.length) (Nat.le_refl _) c
  have e2 := S.per g.length (Nat.le_refl _)
  rw [show c * p = a.length by rw [hc, Nat.mul_comm]] at e1
  rw [e2] at e1
  have ht : t = (c : Int) * l := by
    have : (s g.length).1 + t = (s g.length).1 + (c : Int) * l := congrArg Prod.fst e1
    omega
  have hm : m = (c : Int) * h := by
    have : (s g.length).2 + m = (s g.length).2 + (c : Int) * h := congrArg Prod.snd e1
    omega
  have tp : ∀ z : Int, (c : Int) * z * p = z * a.length := fun z => by
    rw [hc, Int.natCast_mul, Int.mul_comm (c : Int) z, Int.mul_assoc, Int.mul_comm (c : Int)]
  have la : (a.length : Int) ≠ 0 := by omega
  refine ⟨hp, ⟨c, hc⟩, ?_, ?_, ?_⟩
  · rw [ht, tp]
    exact Int.mul_emod_left ..
  · rw [hm, tp]
    exact Int.mul_emod_left ..
  · rw [ht, tp, Int.mul_ediv_cancel _ la, hm, tp, Int.mul_ediv_cancel _ la]
    refine List.ext_getElem? fun i => ?_
    rw [List.getElem?_drop, List.getElem?_map]
    by_cases hi : i < a.length - p
    · rw [List.getElem?_take_of_lt hi]
      have f1 := S.of (n := g.length + i) (by omega)
      have f2 := S.of (n := g.length + (p + i)) (by omega)
      rw [List.getElem?_append_right (by omega), Nat.add_sub_cancel_left] at f1 f2
      rw [f1, f2]
      show some _ = some _
      rw [show g.length + (p + i) = g.length + i + p by omega, P _ (by omega)]
    · rw [List.getElem?_eq_none (by omega), List.getElem?_eq_none (by rw [List.length_take]; omega)]
      rfl
theorem IsSeq.minP (S : IsSeq g a t m s) {p : Nat} (hl : ∀ p', p' < p → ¬ FitsS a t m p') : MinP s p := fun p' b l h h0 hlt P => by
  have Pg := S.back P
  obtain ⟨b', l', h', R⟩ := per_gcd (p' + a.length) p' a.length g.length l h t m (Nat.le_refl _) h0 S.pos Pg S.perAt
  have gp : 0 < Nat.gcd p' a.length := Nat.gcd_pos_of_pos_left _ h0
  have gl : Nat.gcd p' a.length ≤ p' := Nat.gcd_le_left _ h0
  exact hl _ (by omega) (S.fits gp (Nat.gcd_dvd_right _ _) (S.back R))
/-- a form of the least turn that begins as early as can be -/
structure Canon (g a : List Sti) (t m : Int) (s : Nat → Sti) : Prop where
  seq : IsSeq g a t m s
  min : MinP s a.length
  early : ∀ b l h, b < g.length → ¬ PerAt s b a.length l h
theorem Canon.uniq (A : Canon g a t m s) (B : Canon g2 a2 t2 m2 s) : g = g2 ∧ a = a2 ∧ t = t2 ∧ m = m2 := by
  have el : a.length = a2.length := by
    rcases Nat.lt_trichotomy a.length a2.length with c | c | c
    · exact absurd A.seq.perAt (B.min _ _ _ _ A.seq.pos c)
    · exact c
    · exact absurd B.seq.perAt (A.min _ _ _ _ B.seq.pos c)
  have eg : g.length = g2.length := by
    rcases Nat.lt_trichotomy g.length g2.length with c | c | c
    · exact absurd (el ▸ A.seq.perAt) (B.early _ _ _ c)
    · exact c
    · exact absurd (el ▸ B.seq.perAt) (A.early _ _ _ c)
  have ew : g ++ a = g2 ++ a2 := by
    refine List.ext_getElem? fun n => ?_
    by_cases h : n < g.length + a.length
    · rw [A.seq.of h, B.seq.of (by omega)]
    · rw [List.getElem?_eq_none (by rw [List.length_append]; omega), List.getElem?_eq_none (by rw [List.length_append]; omega)]
  obtain ⟨h1, h2⟩ := List.append_inj ew eg
  have e1 := A.seq.per (g.length) (Nat.le_refl _)
  have e2 := B.seq.per (g2.length) (Nat.le_refl _)
  rw [← eg, ← el] at e2
  rw [e1] at e2
  have f1 : (s g.length).1 + t = (s g.length).1 + t2 := congrArg Prod.fst e2
  have f2 : (s g.length).2 + m = (s g.length).2 + m2 := congrArg Prod.snd e2
  exact ⟨h1, h2, by omega, by omega⟩
end
/-- the made form of a form with steps that come again -/
theorem made_canon {gs : List Sti} {a : List Sti} {t m : Int} {f' : List Stp} {a' : List Sti} {t' m' : Int} {s : Nat → Sti} (ha : a ≠ []) (S : IsSeq gs a t m s) (M : MadeT (gs.map up) a t m f' a' t' m') : ∃ g', f' = g'.map up ∧ Canon g' a' t' m' s := by
  obtain ⟨p, b, L, Sh, rfl, ha', rfl, rfl⟩ := M
  have F := L.fits ha
  have p0 := L.pos ha
  have S1 := S.least F
  have lt : (a.take p).length = p := by rw [List.length_take]; have := L.le; omega
  generalize t * p / (a.length : Int) = t1 at *
  generalize m * p / (a.length : Int) = m1 at *
  have ew : gs.map up ++ (a.take p).map up = (gs ++ a.take p).map up := by rw [List.map_append]
  rw [ew] at Sh ha' ⊢
  rw [← List.map_drop, ← List.map_take] at ha'
  have ha2 : a' = ((gs ++ a.take p).drop b).take p := ups_inj.mp ha'
  have hb : b ≤ gs.length := by have := Sh.le; rw [List.length_map] at this; exact this
  have heq : ∀ n, b ≤ n → n < gs.length → (gs ++ a.take p)[n + (a.take p).length]? = ((gs ++ a.take p)[n]?).map (mv t1 m1) := fun n h1 h2 => by
    have e := Sh.eq n h1 (by rw [List.length_map]; exact h2)
    rw [List.getElem?_map, List.getElem?_map, Option.map_map] at e
    rw [lt]
    cases hx : (gs ++ a.take p)[n + p]? with
    | none =>
      rw [hx] at e
      cases hy : (gs ++ a.take p)[n]? with
      | none => rfl
      | some y =>
        rw [hy] at e
        cases e
    | some x =>
      rw [hx] at e
      cases hy : (gs ++ a.take p)[n]? with
      | none =>
        rw [hy] at e
        cases e
      | some y =>
        rw [hy] at e
        have e : up x = up (mv t1 m1 y) := Option.some.inj e
        rw [up_inj e]
        rfl
  have S2 := S1.short hb heq
  rw [lt] at S2
  have lg : ((gs ++ a.take p).take b).length = b := by rw [List.length_take, List.length_append]; omega
  have la2 : a'.length = p := by rw [ha2, List.length_take, List.length_drop, List.length_append, lt]; omega
  refine ⟨(gs ++ a.take p).take b, by rw [List.map_take], ?_, ?_, ?_⟩
  · rw [ha2]
    exact S2
  · rw [la2]
    exact S.minP L.least
  · intro b2 l h hb2 P
    rw [lg] at hb2
    rw [la2] at P
    rcases Sh.least with z | z | z
    · omega
    · omega
    · refine z ?_
      have hP : PerAt s b p t1 m1 := by
        have := S2.perAt
        rw [lg, show (((gs ++ a.take p).drop b).take p).length = p by rw [← ha2]; exact la2] at this
        exact this
      have e1 := P b (by omega)
      have e2 := hP b (Nat.le_refl _)
      rw [e2] at e1
      have el : t1 = l := by
        have : (s b).1 + t1 = (s b).1 + l := congrArg Prod.fst e1
        omega
      have eh : m1 = h := by
        have : (s b).2 + m1 = (s b).2 + h := congrArg Prod.snd e1
        omega
      subst el eh
      have e3 := P (b - 1) (by omega)
      have o1 := S1.of (n := b - 1) (by rw [lt]; omega)
      have o2 := S1.of (n := b - 1 + p) (by rw [lt]; omega)
      rw [List.getElem?_map, List.getElem?_map, o1, o2, e3]
      rfl
end My

namespace My
open PySem PySem.Spec PyProof.Rows L2
section
variable {g a : List Sti} {t m : Int} {s : Nat → Sti}
/-! what the law asks of a least form -/
theorem IsSeq.at_a (S : IsSeq g a t m s) {i : Nat} (h : i < a.length) : a[i]? = some (s (g.length + i)) := by
  have e := S.of (n := g.length + i) (by omega)
  rw [List.getElem?_append_right (by omega), Nat.add_sub_cancel_left] at e
  exact e
theorem IsSeq.at_g (S : IsSeq g a t m s) {i : Nat} (h : i < g.length) : g[i]? = some (s i) := by
  have e := S.of (n := i) (by omega)
  rw [List.getElem?_append_left h] at e
  exact e
def Rise (s : Nat → Sti) : Prop := ∀ n, (s n).1 < (s (n + 1)).1 ∧ (s n).2 < (s (n + 1)).2
theorem Rise.lt {s : Nat → Sti} (R : Rise s) {i j : Nat} (h : i < j) : (s i).1 < (s j).1 ∧ (s i).2 < (s j).2 := by
  obtain ⟨d, rfl⟩ := Nat.le.dest h
  induction d with
  | zero => exact R i
  | succ d ih =>
    have h1 := ih (by omega)
    have h2 := R (i + 1 + d)
    exact ⟨Int.lt_trans h1.1 h2.1, Int.lt_trans h1.2 h2.2⟩
theorem Rise.le {s : Nat → Sti} (R : Rise s) {i j : Nat} (h : i ≤ j) : (s i).1 ≤ (s j).1 := by
  rcases Nat.eq_or_lt_of_le h with e | e
  · rw [e]
    exact Int.le_refl _
  · exact Int.le_of_lt (R.lt e).1
def Tell (u : Option Int) (s : Nat → Sti) (time : Int) (v : Option Int) : Prop := (time < (s 0).1 ∧ v = u) ∨ ∃ n, (s n).1 ≤ time ∧ time < (s (n + 1)).1 ∧ v = some (s n).2
theorem Tell.fun {u v v' : Option Int} {time : Int} {s : Nat → Sti} (R : Rise s) (h : Tell u s time v) (h' : Tell u s time v') : v = v' := by
  rcases h with ⟨h1, rfl⟩ | ⟨n, h1, h2, rfl⟩
  · rcases h' with ⟨_, rfl⟩ | ⟨n, h3, _, _⟩
    · rfl
    · have := R.le (Nat.zero_le n)
      omega
  · rcases h' with ⟨h3, _⟩ | ⟨k, h3, h4, rfl⟩
    · have := R.le (Nat.zero_le n)
      omega
    · have : n = k := by
        rcases Nat.lt_trichotomy n k with c | c | c
        · have := R.le (i := n + 1) (j := k) c
          omega
        · exact c
        · have := R.le (i := k + 1) (j := n) c
          omega
      rw [this]
theorem ups_get {l : List Sti} {n : Nat} {y : Stp} (h : (l.map up)[n]? = some y) : ∃ x, l[n]? = some x ∧ y = up x := by
  rw [List.getElem?_map] at h
  obtain ⟨x, e, rfl⟩ := Option.map_eq_some_iff.mp h
  exact ⟨x, e, rfl⟩
theorem told_tell (S : IsSeq g a t m s) (tp : 0 < t) {u v : Option Int} {time : Int} (h : ToldT u (g.map up) a t m time v) : Tell u s time v := by
  have l0 := S.pos
  have hd : a.head? = some (s g.length) := by
    have := S.at_a (i := 0) l0
    rw [List.head?_eq_getElem?, this, Nat.add_zero]
  cases h with
  | rep x y n hx lx e hy =>
    rw [hd] at hx
    cases hx
    have hn : n < a.length := (List.getElem?_eq_some_iff.mp hy).1
    rw [S.at_a hn] at hy
    cases hy
    have q0 : 0 ≤ (time - (s g.length).1) / t := Int.ediv_nonneg (by omega) (by omega)
    have dm := Int.mul_ediv_add_emod (time - (s g.length).1) t
    have r1 := Int.emod_lt_of_pos (time - (s g.length).1) tp
    have r0 := Int.emod_nonneg (time - (s g.length).1) (by omega : t ≠ 0)
    obtain ⟨q, hq⟩ : ∃ q : Nat, (time - (s g.length).1) / t = (q : Int) := ⟨((time - (s g.length).1) / t).toNat, by omega⟩
    rw [hq] at dm q0 ⊢
    generalize (time - (s g.length).1) % t = r at *
    have it := S.perAt.iter (n := g.length + n) (by omega) q
    rw [Int.mul_comm t] at dm
    refine Or.inr ⟨g.length + n + q * a.length, ?_, ?_, ?_⟩
    · rw [it]
      have := e.lo n (up (s (g.length + n))) (Nat.lt_succ_self n) (by rw [List.getElem?_map, S.at_a hn]; rfl)
      have this : (s (g.length + n)).1 ≤ (s g.length).1 + r := this
      show time ≥ (s (g.length + n)).1 + (q : Int) * t
      omega
    · by_cases c : n + 1 < a.length
      · have it2 := S.perAt.iter (n := g.length + (n + 1)) (by omega) q
        rw [show g.length + n + q * a.length + 1 = g.length + (n + 1) + q * a.length by omega, it2]
        have := e.hi (n + 1) (up (s (g.length + (n + 1)))) (Nat.le_refl _) (by rw [List.getElem?_map, S.at_a c]; rfl)
        have this : (s g.length).1 + r < (s (g.length + (n + 1))).1 := this
        show time < (s (g.length + (n + 1))).1 + (q : Int) * t
        omega
      · have it2 := S.perAt.iter (n := g.length) (Nat.le_refl _) (q + 1)
        have en : g.length + n + q * a.length + 1 = g.length + (q + 1) * a.length := by
          rw [Nat.succ_mul]
          omega
        rw [en, it2]
        show time < (s g.length).1 + ((q + 1 : Nat) : Int) * t
        rw [show ((q + 1 : Nat) : Int) = (q : Int) + 1 by omega, Int.add_mul, Int.one_mul]
        omega
    · rw [it]
      rfl
  | none hx e =>
    refine Or.inl ⟨?_, rfl⟩
    by_cases c : 0 < g.length
    · have := e.hi 0 (up (s 0)) (Nat.le_refl _) (by rw [List.getElem?_map, S.at_g c]; rfl)
      exact this
    · have := hx _ hd
      rw [show g.length = 0 by omega] at this
      exact this
  | some y n hx e hy =>
    obtain ⟨z, hz, rfl⟩ := ups_get hy
    have hn : n < g.length := (List.getElem?_eq_some_iff.mp hz).1
    rw [S.at_g hn] at hz
    cases hz
    refine Or.inr ⟨n, e.lo n _ (Nat.lt_succ_self n) hy, ?_, rfl⟩
    by_cases c : n + 1 < g.length
    · exact e.hi (n + 1) (up (s (n + 1))) (Nat.le_refl _) (by rw [List.getElem?_map, S.at_g c]; rfl)
    · have := hx _ hd
      rw [show g.length = n + 1 by omega] at this
      exact this
end
/-! the law's own way to tell -/
theorem asc_snoc {f : List Stp} {y : Stp} (h : Asc (f ++ [y])) : Asc f ∧ ∀ x ∈ f, x.1 < y.1 := by
  obtain ⟨h1, _, h3⟩ := List.pairwise_append.mp h
  exact ⟨h1, fun x hx => h3 x hx y (List.mem_singleton.mpr rfl)⟩
theorem rev_ind {α : Type} {p : List α → Prop} (h0 : p []) (h1 : ∀ l x, p l → p (l ++ [x])) (l : List α) : p l := by
  have : ∀ n (l : List α), l.length = n → p l := by
    intro n
    induction n with
    | zero =>
      intro l hl
      rw [List.length_eq_zero_iff.mp hl]
      exact h0
    | succ n ih =>
      intro l hl
      rcases List.eq_nil_or_concat l with e | ⟨l', x, e⟩
      · rw [e] at hl
        cases hl
      · rw [List.concat_eq_append] at e
        rw [e, List.length_append, List.length_singleton] at hl
        rw [e]
        exact h1 _ _ (ih l' (by omega))
  exact this _ l rfl
theorem fold_first (time : Int) (c : Option Int) (f : List Stp) : Asc f → (LastB f time 0 ∧ f.foldl (firstAt time) c = c) ∨ ∃ n y, LastB f time (n + 1) ∧ f[n]? = some y ∧ f.foldl (firstAt time) c = y.2 := by
  refine rev_ind (p := fun f => Asc f → (LastB f time 0 ∧ f.foldl (firstAt time) c = c) ∨ ∃ n y, LastB f time (n + 1) ∧ f[n]? = some y ∧ f.foldl (firstAt time) c = y.2) (fun _ => Or.inl ⟨⟨Nat.le_refl _, fun i x h => absurd h (by omega), fun i x _ e => by cases e⟩, rfl⟩) (fun f y ih hs => ?_) f
  obtain ⟨hs1, hlt⟩ := asc_snoc hs
  rw [List.foldl_append]
  show (LastB (f ++ [y]) time 0 ∧ firstAt time (f.foldl (firstAt time) c) y = c) ∨ _
  by_cases hy : y.1 ≤ time
  · refine Or.inr ⟨f.length, y, ⟨by rw [List.length_append]; exact Nat.le_refl _, fun i x hi e => ?_, fun i x hi e => absurd (List.getElem?_eq_some_iff.mp e).1 (by rw [List.length_append, List.length_singleton]; omega)⟩, by rw [List.getElem?_append_right (Nat.le_refl _), Nat.sub_self]; rfl, ?_⟩
    · by_cases c2 : i < f.length
      · rw [List.getElem?_append_left c2] at e
        have := hlt x (List.mem_of_getElem? e)
        omega
      · rw [List.getElem?_append_right (by omega), show i - f.length = 0 by omega] at e
        cases e
        exact hy
    · show firstAt time (f.foldl (firstAt time) c) y = y.2
      unfold firstAt
      rw [if_pos hy]
  · have ef : firstAt time (f.foldl (firstAt time) c) y = f.foldl (firstAt time) c := by
      rw [firstAt, if_neg hy]
    have more : ∀ n, LastB f time n → LastB (f ++ [y]) time n := fun n h => ⟨by rw [List.length_append]; have := h.le; omega, fun i x hi e => h.lo i x hi (by
        rw [List.getElem?_append_left (by have := h.le; omega)] at e
        exact e), fun i x hi e => by
        by_cases c2 : i < f.length
        · rw [List.getElem?_append_left c2] at e
          exact h.hi i x hi e
        · rw [List.getElem?_append_right (by omega)] at e
          have : i - f.length = 0 := by
            have := (List.getElem?_eq_some_iff.mp e).1
            rw [List.length_singleton] at this
            omega
          rw [this] at e
          cases e
          omega⟩
    rcases ih hs1 with ⟨h1, h2⟩ | ⟨n, z, h1, h2, h3⟩
    · exact Or.inl ⟨more _ h1, by rw [ef, h2]⟩
    · refine Or.inr ⟨n, z, more _ h1, ?_, ?_⟩
      · rw [List.getElem?_append_left (List.getElem?_eq_some_iff.mp h2).1]
        exact h2
      · show firstAt time (f.foldl (firstAt time) c) y = z.2
        rw [ef, h3]
theorem fold_again (time tt mm : Int) (c : Option Int) : ∀ a : List Sti, a.foldl (againAt time tt mm) c = (a.map fun x => ((x.1, some (x.2 + mm)) : Stp)).foldl (firstAt (time - tt)) c := by
  intro a
  induction a generalizing c with
  | nil => rfl
  | cons x r ih =>
    rw [List.foldl_cons, List.map_cons, List.foldl_cons, ih]
    congr 1
    unfold againAt firstAt
    by_cases h : x.1 + tt ≤ time
    · rw [if_pos h, if_pos (by show x.1 ≤ time - tt; omega)]
    · rw [if_neg h, if_neg (by show ¬ x.1 ≤ time - tt; omega)]
theorem atL_told {u : Option Int} {f : List Stp} {a : List Sti} {t m time : Int} (hf : Asc f) (ha : Asc (a.map up)) (tp : a ≠ [] → 0 < t) : ToldT u f a t m time (atL u f a t m time) := by
  have first : (∀ x, a.head? = some x → time < x.1) → ToldT u f a t m time (f.foldl (firstAt time) u) := fun hx => by
    rcases fold_first time u f hf with ⟨h1, h2⟩ | ⟨n, y, h1, h2, h3⟩
    · rw [h2]
      exact .none hx h1
    · rw [h3]
      exact .some y n hx h1 h2
  cases a with
  | nil => exact first (fun x hx => nomatch hx)
  | cons x r =>
    show ToldT u f (x :: r) t m time (if x.1 ≤ time then (x :: r).foldl (againAt time ((time - x.1) / t * t) ((time - x.1) / t * m)) (f.foldl (firstAt time) u) else f.foldl (firstAt time) u)
    by_cases hx : x.1 ≤ time
    · rw [if_pos hx, fold_again]
      have t0 := tp (by simp)
      have dm := Int.mul_ediv_add_emod (time - x.1) t
      have r0 := Int.emod_nonneg (time - x.1) (by omega : t ≠ 0)
      rw [Int.mul_comm t] at dm
      have ha2 : Asc ((x :: r).map fun z => ((z.1, some (z.2 + (time - x.1) / t * m)) : Stp)) := by
        have h0 : ((x :: r).map up).Pairwise fun p q => p.1 < q.1 := ha
        rw [List.pairwise_map] at h0
        unfold Asc
        rw [List.pairwise_map]
        exact h0
      have back : ∀ n, LastB ((x :: r).map fun z => ((z.1, some (z.2 + (time - x.1) / t * m)) : Stp)) (time - (time - x.1) / t * t) n → LastB ((x :: r).map up) (x.1 + (time - x.1) % t) n := fun n h => by
        have et : time - (time - x.1) / t * t = x.1 + (time - x.1) % t := by omega
        rw [et] at h
        refine ⟨by have := h.le; rw [List.length_map] at this ⊢; exact this, fun i z hi e => ?_, fun i z hi e => ?_⟩
        · obtain ⟨w, ew, rfl⟩ := ups_get e
          exact h.lo i (w.1, some (w.2 + (time - x.1) / t * m)) hi (by rw [List.getElem?_map, ew]; rfl)
        · obtain ⟨w, ew, rfl⟩ := ups_get e
          exact h.hi i (w.1, some (w.2 + (time - x.1) / t * m)) hi (by rw [List.getElem?_map, ew]; rfl)
      rcases fold_first (time - (time - x.1) / t * t) (f.foldl (firstAt time) u) _ ha2 with ⟨h1, _⟩ | ⟨n, y, h1, h2, h3⟩
      · have := (back _ h1).hi 0 (up x) (Nat.le_refl _) rfl
        have this : x.1 + (time - x.1) % t < x.1 := this
        omega
      · rw [h3]
        rw [List.getElem?_map] at h2
        obtain ⟨z, hz, rfl⟩ := Option.map_eq_some_iff.mp h2
        exact .rep x z n rfl hx (back _ h1) hz
    · rw [if_neg hx]
      exact first (fun x' hx' => by cases hx'; omega)
end My

namespace My
open PySem PySem.Spec PyProof.Rows L2
/-! drawn tallies as sequences -/
theorem stO_st (x : Stp) : stO (stD x) = x := by
  obtain ⟨t, c⟩ := x
  cases c <;> rfl
theorem stOs (l : List Stp) : (l.map stD).map stO = l := by
  rw [List.map_map]
  exact (List.map_congr_left fun x _ => stO_st x).trans (List.map_id l)
/-- steps that rise from a pair on -/
theorem rise_of : ∀ (l : List Sti) (x : Option Int × Option Int) (c : Int), x.2 = some c → (∀ y, l.head? = some y → c < y.2 ∧ ∀ t, x.1 = some t → t < y.1) → (∀ i p q, l[i]? = some p → l[i + 1]? = some q → p.1 < q.1 ∧ p.2 < q.2) → riseF x (l.map up) = true
  | [], _, _, _, _, _ => rfl
  | y :: r, x, c, hc, h0, h => by
    obtain ⟨a1, a2⟩ := h0 y rfl
    show (upC x.2 (some y.2) && (upT x.1 y.1 && riseF (prO (up y)) (r.map up))) = true
    rw [hc, show upC (some c) (some y.2) = true from decide_eq_true a1]
    have ut : upT x.1 y.1 = true := by
      cases hx : x.1 with
      | none => rfl
      | some t => exact decide_eq_true (a2 t hx)
    rw [ut, rise_of r (prO (up y)) y.2 rfl (fun z hz => ?_) (fun i p q h1 h2 => h (i + 1) p q h1 h2)]
    · rfl
    · have := h 0 y z rfl (by rw [List.getElem?_cons_succ, ← List.head?_eq_getElem?]; exact hz)
      exact ⟨this.2, fun t ht => by cases ht; exact this.1⟩
theorem all_fd {l : List Sti} (h : ∀ x ∈ l, 0 ≤ x.2) : (l.map siD).all isStepD = true ∧ ((l.map up).map stD).all isFD = true := by
  have one : ∀ x ∈ l, isStepD (siD x) = true := fun x hx => by
    show (isIntD (.int x.1) && isNumD (.int x.2)) = true
    rw [show isNumD (.int x.2) = true from decide_eq_true (h x hx)]
    rfl
  constructor
  · rw [List.all_eq_true]
    intro d hd
    obtain ⟨x, hx, rfl⟩ := List.mem_map.mp hd
    exact one x hx
  · rw [List.map_map, List.all_eq_true]
    intro d hd
    obtain ⟨x, hx, rfl⟩ := List.mem_map.mp hd
    show (isStepD (siD x) || isEndlD (siD x)) = true
    rw [one x hx]
    rfl
/-- steps that rise, as one sequence, with their bounds -/
structure Steps (u : Int) (g a : List Sti) (t m : Int) (s : Nat → Sti) : Prop where
  seq : IsSeq g a t m s
  rise : Rise s
  u0 : 0 ≤ u
  un : u < (s 0).2
  lg : g.length ≤ 900
  la : a.length ≤ 900
  t1 : t < 1000000
  m1 : m < 1000000
theorem Steps.cnt {u : Int} {g a : List Sti} {t m : Int} {s : Nat → Sti} (G : Steps u g a t m s) (n : Nat) : 0 < (s n).2 := by
  have := G.u0
  have := G.un
  rcases Nat.eq_zero_or_pos n with z | z
  · rw [z]
    omega
  · have := (G.rise.lt z).2
    omega
/-- what right arguments tell: nothing is wrong -/
theorem right_word {u : Int} {g a : List Sti} {t m : Int} {s : Nat → Sti} {g2 a2 : List Sti} {t2 m2 : Int} {d1 d2 : PyData} (G : Steps u g2 a2 t2 m2 s) (S : IsSeq g a t m s) (q1 : isSeqD d1 = true) (i1 : itemsD d1 = (g.map up).map stD) (q2 : isSeqD d2 = true) (i2 : itemsD d2 = a.map siD) :
    wordT (.int u) d1 d2 (.int t) (.int m) = none := by
  have l0 := S.pos
  have R := G.rise
  have hg : ∀ x ∈ g, 0 ≤ x.2 := fun x hx => by
    obtain ⟨i, hi⟩ := List.getElem?_of_mem hx
    have h1 := (List.getElem?_eq_some_iff.mp hi).1
    rw [S.at_g h1] at hi
    cases hi
    exact Int.le_of_lt (G.cnt i)
  have ha : ∀ x ∈ a, 0 ≤ x.2 := fun x hx => by
    obtain ⟨i, hi⟩ := List.getElem?_of_mem hx
    have h1 := (List.getElem?_eq_some_iff.mp hi).1
    rw [S.at_a h1] at hi
    cases hi
    exact Int.le_of_lt (G.cnt _)
  have as_ : a.map siD = (a.map up).map stD := by rw [List.map_map]; rfl
  have rg : riseF (none, some u) (g.map up) = true := rise_of g _ u rfl (fun y hy => by
    rw [List.head?_eq_getElem?] at hy
    have h1 := (List.getElem?_eq_some_iff.mp hy).1
    rw [S.at_g h1] at hy
    cases hy
    exact ⟨G.un, fun t ht => nomatch ht⟩) (fun i p q h1 h2 => by
    have l2 := (List.getElem?_eq_some_iff.mp h2).1
    rw [S.at_g (by omega)] at h1
    rw [S.at_g l2] at h2
    cases h1
    cases h2
    exact R i)
  have hx : a.head? = some (s g.length) := by
    have := S.at_a (i := 0) l0
    rw [List.head?_eq_getElem?, this, Nat.add_zero]
  have hy : a.getLast? = some (s (g.length + (a.length - 1))) := by
    rw [List.getLast?_eq_getElem?]
    exact S.at_a (by omega)
  have nx : s (g.length + a.length) = mv t m (s g.length) := S.per _ (Nat.le_refl _)
  have lt := R.lt (i := g.length + (a.length - 1)) (j := g.length + a.length) (by omega)
  rw [nx] at lt
  have lt1 : (s (g.length + (a.length - 1))).1 < (s g.length).1 + t := lt.1
  have lt2 : (s (g.length + (a.length - 1))).2 < (s g.length).2 + m := lt.2
  have le := R.le (i := g.length) (j := g.length + (a.length - 1)) (by omega)
  have le2 : (s g.length).2 ≤ (s (g.length + (a.length - 1))).2 := by
    by_cases e : a.length = 1
    · rw [e, Nat.sub_self, Nat.add_zero]
      exact Int.le_refl _
    · exact Int.le_of_lt (R.lt (by omega)).2
  have last : ∃ l : Option Int × Option Int, (((g.map up).getLast?.map prO).getD (none, some u)) = l ∧ ∃ c, l.2 = some c ∧ c < (s g.length).2 ∧ ∀ t, l.1 = some t → t < (s g.length).1 := by
    by_cases e : g.length = 0
    · have : g = [] := List.length_eq_zero_iff.mp e
      subst this
      exact ⟨_, rfl, u, rfl, G.un, fun t ht => nomatch ht⟩
    · have eg : g.getLast? = some (s (g.length - 1)) := by
        rw [List.getLast?_eq_getElem?]
        exact S.at_g (by omega)
      have := R.lt (i := g.length - 1) (j := g.length) (by omega)
      rw [List.getLast?_map, eg]
      exact ⟨_, rfl, _, rfl, this.2, fun t ht => by cases ht; exact this.1⟩
  obtain ⟨l, el, c, ec, lc, lt'⟩ := last
  have ra : riseF l (a.map up) = true := rise_of a _ c ec (fun y hy => by
    rw [hx] at hy
    cases hy
    exact ⟨lc, lt'⟩) (fun i p q h1 h2 => by
    have l2 := (List.getElem?_eq_some_iff.mp h2).1
    rw [S.at_a (by omega)] at h1
    rw [S.at_a l2] at h2
    cases h1
    cases h2
    exact R (g.length + i))
  unfold wordT
  rw [if_pos (show (isNonD (.int u) || isNumD (.int u)) = true by rw [show isNumD (.int u) = true from decide_eq_true G.u0]; rfl), q1, i1, (all_fd hg).2, if_pos (show (true && true) = true from rfl), stOs, show cO (.int u) = some u from rfl, if_pos rg]
  unfold wordA
  rw [q2, i2, (all_fd ha).1, if_pos (show (true && true) = true from rfl), show cO (.int u) = some u from rfl, el, as_, stOs]
  unfold wordR
  rw [ec, List.head?_map, List.getLast?_map, hx, hy]
  show (if riseF l (a.map up) = true then _ else _) = none
  rw [if_pos ra, if_pos (by rw [show isNumD (.int t) = true from decide_eq_true (by omega), Bool.true_and]; exact decide_eq_true (by show (s (g.length + (a.length - 1))).1 - (s g.length).1 < t; omega)),
    if_pos (by rw [show isNumD (.int m) = true from decide_eq_true (by omega), Bool.true_and]; exact decide_eq_true (by show (s (g.length + (a.length - 1))).2 - (s g.length).2 < m; omega))]
end My

namespace My
open PySem PySem.Spec PyProof.Rows L2
/-! the made form of a drawn tally tells what is due -/
theorem asc_parts {g a : List Sti} {t m : Int} {s : Nat → Sti} (S : IsSeq g a t m s) (R : Rise s) : Asc (g.map up) ∧ Asc (a.map up) := by
  constructor
  · unfold Asc
    rw [List.pairwise_map, List.pairwise_iff_getElem]
    intro i j hi hj hij
    have e1 := S.at_g hi
    have e2 := S.at_g hj
    rw [List.getElem?_eq_getElem hi] at e1
    rw [List.getElem?_eq_getElem hj] at e2
    rw [Option.some.inj e1, Option.some.inj e2]
    exact (R.lt hij).1
  · unfold Asc
    rw [List.pairwise_map, List.pairwise_iff_getElem]
    intro i j hi hj hij
    have e1 := S.at_a hi
    have e2 := S.at_a hj
    rw [List.getElem?_eq_getElem hi] at e1
    rw [List.getElem?_eq_getElem hj] at e2
    rw [Option.some.inj e1, Option.some.inj e2]
    exact (R.lt (by omega)).1
theorem log_small {i : Int} (h : i.natAbs < 2 ^ 64) : i.natAbs.log2 < 1920 := by
  by_cases z : i.natAbs = 0
  · rw [z]
    decide
  · have : i.natAbs.log2 < 64 := (Nat.log2_lt z).mpr h
    omega
theorem low_same {a b c d : Nat} {A B : Nat} (hA : 0 < A) (hB : 0 < B) (h1 : a * B = c * A) (h2 : b * B = d * A) : a / Nat.gcd a b = c / Nat.gcd c d ∧ b / Nat.gcd a b = d / Nat.gcd c d := by
  have hg : Nat.gcd a b * B = Nat.gcd c d * A := by rw [← Nat.gcd_mul_right, ← Nat.gcd_mul_right, h1, h2]
  constructor
  · rw [← Nat.mul_div_mul_right a (Nat.gcd a b) hB, ← Nat.mul_div_mul_right c (Nat.gcd c d) hA, h1, hg]
  · rw [← Nat.mul_div_mul_right b (Nat.gcd a b) hB, ← Nat.mul_div_mul_right d (Nat.gcd c d) hA, h2, hg]
theorem low_eq {t m t' m' : Int} {A B : Nat} (hA : 0 < A) (hB : 0 < B) (t0 : 0 < t) (m0 : 0 < m) (t1 : 0 < t') (m1 : 0 < m') (h1 : t * B = t' * A) (h2 : m * B = m' * A) : lowN m' t' = lowN m t ∧ lowD m' t' = lowD m t := by
  obtain ⟨tn, rfl⟩ : ∃ n : Nat, t = n := ⟨t.toNat, by omega⟩
  obtain ⟨mn, rfl⟩ : ∃ n : Nat, m = n := ⟨m.toNat, by omega⟩
  obtain ⟨tn', rfl⟩ : ∃ n : Nat, t' = n := ⟨t'.toNat, by omega⟩
  obtain ⟨mn', rfl⟩ : ∃ n : Nat, m' = n := ⟨m'.toNat, by omega⟩
  have e1 : tn * B = tn' * A := by exact_mod_cast h1
  have e2 : mn * B = mn' * A := by exact_mod_cast h2
  obtain ⟨l1, l2⟩ := low_same hA hB e2 e1
  unfold lowN lowD
  rw [Int.natAbs_natCast, Int.natAbs_natCast, Int.natAbs_natCast, Int.natAbs_natCast]
  exact ⟨by exact_mod_cast l1.symm, by exact_mod_cast l2.symm⟩
theorem Rise.le2 {s : Nat → Sti} (R : Rise s) {i j : Nat} (h : i ≤ j) : (s i).2 ≤ (s j).2 := by
  rcases Nat.eq_or_lt_of_le h with e | e
  · rw [e]
    exact Int.le_refl _
  · exact Int.le_of_lt (R.lt e).2
theorem turn_pos {g a : List Sti} {t m : Int} {s : Nat → Sti} (R : Rise s) (S : IsSeq g a t m s) : 0 < t ∧ 0 < m := by
  have nx := S.per g.length (Nat.le_refl _)
  have lt := R.lt (i := g.length) (j := g.length + a.length) (by have := S.pos; omega)
  rw [nx] at lt
  have l1 : (s g.length).1 < (s g.length).1 + t := lt.1
  have l2 : (s g.length).2 < (s g.length).2 + m := lt.2
  exact ⟨by omega, by omega⟩
/-- what is made of such steps -/
theorem made_steps {u : Int} {g a : List Sti} {t m : Int} {s : Nat → Sti} {f' : List Stp} {a' : List Sti} {t' m' : Int} (G : Steps u g a t m s) (M : MadeT (g.map up) a t m f' a' t' m') :
    ∃ g', f' = g'.map up ∧ Canon g' a' t' m' s ∧ Steps u g' a' t' m' s ∧ PartsT f' a' t' m' ∧ (lowN m' t' = lowN m t ∧ lowD m' t' = lowD m t) ∧ g'.length ≤ g.length ∧ a'.length ≤ a.length := by
  have S := G.seq
  have l0 := S.pos
  have ha : a ≠ [] := fun z => by rw [z] at l0; exact absurd l0 (by decide)
  obtain ⟨g', ef, A⟩ := made_canon ha S M
  have lens : f'.length ≤ g.length ∧ f'.length ≤ 900 ∧ a'.length ≤ a.length := by
    obtain ⟨p, b, L, Sh, e1, e2, _⟩ := M
    have h1 := Sh.le
    rw [List.length_map] at h1
    have h2 := L.le
    have h3 := G.lg
    refine ⟨?_, ?_, ?_⟩
    · rw [e1, List.length_take]
      omega
    · rw [e1, List.length_take]
      omega
    · have := congrArg List.length e2
      rw [List.length_map, List.length_take] at this
      omega
  subst ef
  rw [List.length_map] at lens
  have S' := A.seq
  have l0' := S'.pos
  have ha' : a' ≠ [] := fun z => by rw [z] at l0'; exact absurd l0' (by decide)
  have R := G.rise
  obtain ⟨tp, mp⟩ := turn_pos R S
  obtain ⟨tp', mp'⟩ := turn_pos R S'
  obtain ⟨bs1, bs2⟩ := asc_parts S' R
  have up1 := S.per (g.length + g'.length) (by omega)
  have up2 := S'.per (g.length + g'.length) (by omega)
  have h1 := R.le (i := g.length + g'.length + a'.length) (j := g.length + g'.length + a.length) (by omega)
  have h2 := R.le2 (i := g.length + g'.length + a'.length) (j := g.length + g'.length + a.length) (by omega)
  rw [up1, up2] at h1 h2
  have t'le : t' ≤ t := by
    have : (s (g.length + g'.length)).1 + t' ≤ (s (g.length + g'.length)).1 + t := h1
    omega
  have m'le : m' ≤ m := by
    have : (s (g.length + g'.length)).2 + m' ≤ (s (g.length + g'.length)).2 + m := h2
    omega
  have b1 := G.la
  have b2 := G.t1
  have b3 := G.m1
  refine ⟨g', rfl, A, ⟨S', R, G.u0, G.un, by omega, by omega, by omega, by omega⟩, ⟨by rw [List.length_map]; omega, by omega, bs1, bs2, fun _ => tp', by omega, by omega, by omega⟩, ?_, lens.1, lens.2.2⟩
  have k1 := S.perAt.iter (n := g.length + g'.length) (by omega) a'.length
  have k2 := S'.perAt.iter (n := g.length + g'.length) (by omega) a.length
  rw [Nat.mul_comm a'.length a.length] at k1
  rw [k1] at k2
  generalize s (g.length + g'.length) = z at k2
  have e1 : z.1 + (a'.length : Int) * t = z.1 + (a.length : Int) * t' := congrArg Prod.fst k2
  have e2 : z.2 + (a'.length : Int) * m = z.2 + (a.length : Int) * m' := congrArg Prod.snd k2
  exact low_eq (A := a.length) (B := a'.length) l0 l0' tp mp tp' mp' (by rw [Int.mul_comm t, Int.mul_comm t']; omega) (by rw [Int.mul_comm m, Int.mul_comm m']; omega)
/-- what a form of such steps tells -/
theorem Steps.tell {u : Int} {g a : List Sti} {t m : Int} {s : Nat → Sti} (G : Steps u g a t m s) (time : Int) : Tell (some u) s time (atL (some u) (g.map up) a t m time) := by
  obtain ⟨as1, as2⟩ := asc_parts G.seq G.rise
  obtain ⟨tp, _⟩ := turn_pos G.rise G.seq
  exact told_tell G.seq tp (atL_told (u := some u) (time := time) (m := m) as1 as2 (fun _ => tp))
end My

namespace My
open PySem PySem.Spec PyProof.Rows L2
local macro_rules | `(tactic| walk_at "side") => `(tactic| first | (dsimp only; omega) | exact ⟨by omega, by omega⟩ | exact Or.inl ⟨by omega, by omega⟩ | exact Or.inr ⟨by omega, by omega⟩ | decide)
local macro_rules | `(tactic| walk_at "sq") => `(tactic| first | assumption | exact SqL.of (by assumption) | exact SqT.of (by assumption) | (refine L2.Same.seq (by assumption) ?_; walk_at "sq") | (refine L2.Same.seqT (by assumption) ?_; walk_at "sq") | exact Or.inl (by walk_at "sq") | exact Or.inr (by walk_at "sq"))
local macro_rules | `(tactic| walk_at "1") => `(tactic| first
  | refine ⟨_, rfl, iteT ?_⟩
  | refine ⟨_, rfl, iteF ?_⟩
  | refine ⟨_, rfl, ?_⟩
  | refine ⟨_, _, rfl, rfl, (by walk_at "side"), ?_⟩
  | refine ⟨_, _, rfl, rfl, ?_⟩
  | refine ⟨_, _, _, _, true, rfl, .ty _, .base (.int _), kit_ty (a := "int") (by decide +kernel), ?_⟩
  | refine ⟨_, _, _, _, false, rfl, .ty _, .base (.int _), kit_ty (a := "int") (by decide +kernel), ?_⟩
  | refine ⟨_, _, rfl, (by walk_at "sq"), ?_⟩
  | refine ⟨_, _, _, _, rfl, rfl, (by walk_at "sq"), (by first | rfl | assumption), ?_⟩
  | refine Or.inl ⟨_, _, _, _, rfl, rfl, (by walk_at "sq"), (by first | rfl | assumption), ?_⟩
  | refine Or.inr (Or.inl ⟨_, _, _, _, rfl, rfl, (by walk_at "sq"), (by first | rfl | assumption), ?_⟩)
  | refine ⟨_, _, rfl, Or.inl ⟨(by walk_at "sq"), ?_⟩⟩
  | refine ⟨rfl, ?_⟩
  | refine iteT ?_
  | refine iteF ?_
  | refine ⟨_, _, _, _, _, rfl, (by assumption), (by assumption), (by assumption), (by assumption), ?_⟩
  | refine Or.inl ⟨_, rfl, ?_⟩
  | refine Or.inr ⟨_, rfl, ?_⟩
  | refine ⟨_, _, rfl, (by walk_at "side"), ?_⟩
  | refine ⟨_, _, rfl, ?_⟩)
local macro_rules | `(tactic| walk_at "fld") => `(tactic| skip)
local macro_rules | `(tactic| walk_at "s") => `(tactic| repeat walk_at "1")
local macro_rules | `(tactic| walk_at "size") => `(tactic| first | exact Nat.le_of_ble_eq_true rfl | (simp only [List.length_map, List.length_append, List.length_cons, List.length_nil]; omega))
local macro_rules | `(tactic| walk_at "new") => `(tactic| (first | refine ⟨(by walk_at "size"), fun p hp => ?_⟩ | refine fun p hp => ?_); (generalize hq : upd _ p _ = H1); (obtain ⟨s, e⟩ := new_facts hp hq); clear hq)
/-! the law's tally, its fraction -/
structure TalMk (P : Program) (w : World) (K : PySem.W.Frag) (mg : Str → Option Value) (base : Heap) (C D : Addr) : Prop where
  ex : ∃ f fd, FnOk P w K mg base (L2.CX P w) 5 f fd ["self", "under", "first", "again", "turn", "more"] (spInitT C D) ∧ mg "Tally" = some (.ref C) ∧ Mk K C f ∧ Binds K fd ["self", "under", "first", "again", "turn", "more"] []
/-- what becomes of arguments: the error, or the tally -/
structure Made (C D : Addr) (H : Hp) (d0 d1 d2 d3 d4 : PyData) (Q : VK) (E : XK) : Prop where
  bad : ∀ w, wordT d0 d1 d2 d3 d4 = some w → ∀ H' d, Same H H' → H' d = some (.xd [("word", .str w)]) → E (.ref D) (some d) H'
  good : wordT d0 d1 d2 d3 d4 = none → (itemsD d1).length ≤ 1000 ∧ (itemsD d2).length ≤ 1000 ∧ ∀ H' p f' a' t' m', Same H H' → H p = none → MadeT (fsD d1) (asD d2) (intD d3) (intD d4) f' a' t' m' → TalAt C H' p (cO d0) f' a' t' m' → Q (.ref p) H'
theorem rd_init {C D x dx : Addr} {H : Hp} {v0 v1 v2 v3 v4 : V} {d0 d1 d2 d3 d4 : PyData} {Q : VK} {E : XK} (h0 : Dv H v0 d0) (h1 : Dv H v1 d1) (h2 : Dv H v2 d2) (h3 : Dv H v3 d3) (h4 : Dv H v4 d4) (M : Made C D H d0 d1 d2 d3 d4 Q E) (nx : H x = none) (ndx : H dx = none) (nex : dx ≠ x) :
    spInitT C D [.ref x, v0, v1, v2, v3, v4] (upd (upd H dx (.own x)) x (.ins C dx [])) (fun r H' => r = .non ∧ Q (.ref x) H') E := by
  have sx : Same H (upd (upd H dx (.own x)) x (.ins C dx [])) := fun b o e => by
    rw [upd_ne (ne_of_none e nx), upd_ne (ne_of_none e ndx)]
    exact e
  refine ⟨H, x, dx, v0, v1, v2, v3, v4, d0, d1, d2, d3, d4, rfl, nx, sx, upd_same, h0, h1, h2, h3, h4, M.bad, fun hw => ?_⟩
  obtain ⟨l1, l2, g⟩ := M.good hw
  exact ⟨l1, l2, fun H' f' a' t' m' s' mt ta => ⟨rfl, g H' x f' a' t' m' s' nx mt ta⟩⟩
def spMade (C D : Addr) : Sp := fun vs H Q E => ∃ (r : Addr) (v0 v1 v2 v3 v4 : V) (d0 d1 d2 d3 d4 : PyData), vs = [.ref r] ∧ (H r = some (.lst [v0, v1, v2, v3, v4]) ∨ H r = some (.tup [v0, v1, v2, v3, v4])) ∧ Dv H v0 d0 ∧ Dv H v1 d1 ∧ Dv H v2 d2 ∧ Dv H v3 d3 ∧ Dv H v4 d4 ∧ Made C D H d0 d1 d2 d3 d4 Q E
theorem rd_item {K : PySem.W.Frag} {H : Hp} {A : Addr} {xs : List V} {i : Int} {v : V} {σ : L2.St} {j : Nat} {Q : VK} (hS : SqS K H A xs) (hv : σ[j]? = some (some (.ref A))) (hi : atI xs i = some v) (h : Q v H) : tOp (rIxL K) (tVar j) (tC (.int i)) σ H Q ∨ tOp (rIxT K) (tVar j) (tC (.int i)) σ H Q := by
  rcases hS with hS | hS
  · exact Or.inl ⟨_, hv, A, xs, i, _, rfl, rfl, hS, hi, h⟩
  · exact Or.inr ⟨_, hv, A, xs, i, _, rfl, rfl, hS, hi, h⟩
section
variable {P : Program} {w : World} {K : PySem.W.Frag} {mg : Str → Option Value} {base : Heap} {C D : Addr}
abbrev s_law_made : Stmt := topS 56
theorem sc_law_made : FnScope ["raw"] ["raw"] (defScope s_law_made) := ⟨rfl, rfl, rfl, by decide +kernel, rfl, by decide +kernel, by decide +kernel⟩
set_option maxHeartbeats 4000000 in
theorem ok_made (F : Df K mg "_law_made" s_law_made ["raw"]) (M : TalMk P w K mg base C D) : OwnX P w K mg base "_law_made" 7 ["raw"] (spMade C D) := by
  obtain ⟨fM, fdM, FM, mM, MM, bM⟩ := M.ex
  refine F.ownX sc_law_made (fun vs H Q E h => ?_) (fun f cdv A outer s H vs Q E hr h => ?_)
  · obtain ⟨_, _, _, _, _, _, _, _, _, _, _, rfl, _⟩ := h
    rfl
  · obtain ⟨r, v0, v1, v2, v3, v4, d0, d1, d2, d3, d4, rfl, hr', h0, h1, h2, h3, h4, MD⟩ := h
    refine ⟨_, (pss_one (ps_ret (pe_makeS MM FM (hr.mono (by decide)) rfl mM bM .nil (fun σ => passAt (takes_of rfl rfl rfl rfl) σ) (pa_cons (pe_alt (pe_ix ix_list (pv 0) pe_int (fun _ _ => rfl)) (pe_ix ix_tup (pv 0) pe_int (fun _ _ => rfl))) (pa_cons (pe_alt (pe_ix ix_list (pv 0) pe_int (fun _ _ => rfl)) (pe_ix ix_tup (pv 0) pe_int (fun _ _ => rfl))) (pa_cons (pe_alt (pe_ix ix_list (pv 0) pe_int (fun _ _ => rfl)) (pe_ix ix_tup (pv 0) pe_int (fun _ _ => rfl))) (pa_cons (pe_alt (pe_ix ix_list (pv 0) pe_int (fun _ _ => rfl)) (pe_ix ix_tup (pv 0) pe_int (fun _ _ => rfl))) (pa_cons (pe_alt (pe_ix ix_list (pv 0) pe_int (fun _ _ => rfl)) (pe_ix ix_tup (pv 0) pe_int (fun _ _ => rfl))) pa_nil)))))))), ?_⟩
    have hS : SqS K H r [v0, v1, v2, v3, v4] := hr'.imp SqL.of SqT.of
    refine rd_item hS rfl (atI_nat (j := 0) rfl) ?_
    refine rd_item hS rfl (atI_nat (j := 1) rfl) ?_
    refine rd_item hS rfl (atI_nat (j := 2) rfl) ?_
    refine rd_item hS rfl (atI_nat (j := 3) rfl) ?_
    refine rd_item hS rfl (atI_nat (j := 4) rfl) ?_
    exact fun x dx nx ndx nex => rd_init h0 h1 h2 h3 h4 MD nx ndx nex
end
end My

namespace My.Rw
open PySem PySem.Spec PyProof.Rows L2
local macro_rules | `(tactic| walk_at "side") => `(tactic| first | (dsimp only; omega) | exact ⟨by omega, by omega⟩ | exact Or.inl ⟨by omega, by omega⟩ | exact Or.inr ⟨by omega, by omega⟩ | decide)
local macro_rules | `(tactic| walk_at "sq") => `(tactic| first | assumption | exact SqL.of (by assumption) | exact SqT.of (by assumption) | (refine L2.Same.seq (by assumption) ?_; walk_at "sq") | (refine L2.Same.seqT (by assumption) ?_; walk_at "sq") | exact Or.inl (by walk_at "sq") | exact Or.inr (by walk_at "sq"))
local macro_rules | `(tactic| walk_at "1") => `(tactic| first
  | refine ⟨_, rfl, iteT ?_⟩
  | refine ⟨_, rfl, iteF ?_⟩
  | refine ⟨_, rfl, ?_⟩
  | refine ⟨_, _, rfl, rfl, (by walk_at "side"), ?_⟩
  | refine ⟨_, _, rfl, rfl, ?_⟩
  | refine ⟨_, _, _, _, true, rfl, .ty _, .base (.int _), kit_ty (a := "int") (by decide +kernel), ?_⟩
  | refine ⟨_, _, _, _, false, rfl, .ty _, .base (.int _), kit_ty (a := "int") (by decide +kernel), ?_⟩
  | refine ⟨_, _, rfl, (by walk_at "sq"), ?_⟩
  | refine ⟨rfl, ?_⟩
  | refine iteT ?_
  | refine iteF ?_
  | refine Or.inl ⟨_, rfl, ?_⟩)
local macro_rules | `(tactic| walk_at "s") => `(tactic| repeat walk_at "1")
local macro_rules | `(tactic| walk_at "size") => `(tactic| first | exact Nat.le_of_ble_eq_true rfl | (simp only [List.length_map, List.length_append, List.length_cons, List.length_nil]; omega))
local macro_rules | `(tactic| walk_at "new") => `(tactic| (first | refine ⟨(by walk_at "size"), fun p hp => ?_⟩ | refine fun p hp => ?_); (generalize hq : upd _ p _ = H1); (obtain ⟨s, e⟩ := new_facts hp hq); clear hq)
def topS (i : Nat) : Stmt := PySem.Challenge.pw_waitworks_k88_goings_and_counts.main.body.getD i (.Pass ⟨0, 0, 0, 0⟩)
/-- what of the built-in names is still built-in -/
structure Txt (mg : Str → Option Value) : Prop where
  int : mg "int" = none
  len : mg "len" = none
  abs : mg "abs" = none
  bool : mg "bool" = none
  list : mg "list" = none
  tuple : mg "tuple" = none
  range : mg "range" = none
  isinstance : mg "isinstance" = none
  divmod : mg "divmod" = none
  max : mg "max" = none
  min : mg "min" = none
  repr : mg "repr" = none
/-- a time or nothing as a value -/
def ov : Option Int → V
  | none => .non
  | some i => .int i
theorem ov_non (t : Option Int) : decide (ov t = .non) = t.isNone := by cases t <;> rfl
section
variable {P : Program} {w : World} {K : PySem.W.Frag} {mg : Str → Option Value} {base : Heap}
/-! ### kinds -/
abbrev s_is_integer : Stmt := topS 8
theorem sc_is_integer : FnScope ["value"] ["value"] (defScope s_is_integer) := ⟨rfl, rfl, rfl, by decide +kernel, rfl, by decide +kernel, by decide +kernel⟩
def spIsInt : Sp := fun vs H Q _ => ∃ i : Int, vs = [.int i] ∧ Q (.bl true) H
theorem ok_is_integer (D : Df K mg "is_integer" s_is_integer ["value"]) (T : Txt mg) : Own P w K mg base "is_integer" 1 ["value"] spIsInt := by
  refine D.own sc_is_integer (fun vs H Q E h => ?_) (fun f cdv A outer s H vs Q E hr h => ?_)
  · obtain ⟨i, rfl, _⟩ := h
    rfl
  · obtain ⟨i, rfl, k⟩ := h
    refine ⟨_, (pss_one (ps_ret (pe_and (pe_callB call_isi (by rfl) T.isinstance (by decide +kernel) (pa_cons (pv 0) (pa_cons (pe_bltn (v := .ty "int") (by rfl) T.int (by decide +kernel) rfl) pa_nil))) (pe_one (pe_not (pe_callB call_isi (by rfl) T.isinstance (by decide +kernel) (pa_cons (pv 0) (pa_cons (pe_bltn (v := .ty "bool") (by rfl) T.bool (by decide +kernel) rfl) pa_nil)))))))), ?_⟩
    walk_at "s"
    exact k
abbrev s_is_number : Stmt := topS 9
theorem sc_is_number : FnScope ["value"] ["value"] (defScope s_is_number) := ⟨rfl, rfl, rfl, by decide +kernel, rfl, by decide +kernel, by decide +kernel⟩
def spIsNum : Sp := fun vs H Q _ => ∃ i : Int, vs = [.int i] ∧ Q (.bl (decide (0 ≤ i))) H
theorem ok_is_number (D : Df K mg "is_number" s_is_number ["value"]) (o_is_integer : Own P w K mg base "is_integer" 1 ["value"] spIsInt) : Own P w K mg base "is_number" 2 ["value"] spIsNum := by
  refine D.own sc_is_number (fun vs H Q E h => ?_) (fun f cdv A outer s H vs Q E hr h => ?_)
  · obtain ⟨i, rfl, _⟩ := h
    rfl
  · obtain ⟨i, rfl, k⟩ := h
    refine ⟨_, (pss_one (ps_ret (pe_and (pe_own o_is_integer (hr.mono (by decide)) (pa_cons (pv 0) pa_nil)) (pe_one (pe_cmpR op_ge (pv 0) pe_int (nomark _)))))), ?_⟩
    walk_at "s"
    exact k
abbrev s_is_sequence : Stmt := topS 10
theorem sc_is_sequence : FnScope ["value"] ["value"] (defScope s_is_sequence) := ⟨rfl, rfl, rfl, by decide +kernel, rfl, by decide +kernel, by decide +kernel⟩
/-- what is behind a call that makes things: all that was tracked stands -/
def spIsSeq : Sp := fun vs H Q _ => ∃ (a : Addr) (xs : List V), vs = [.ref a] ∧ (H a = some (.lst xs) ∨ H a = some (.tup xs)) ∧ ∀ H', Same H H' → Q (.bl true) H'
theorem ok_is_sequence (D : Df K mg "is_sequence" s_is_sequence ["value"]) (T : Txt mg) : Own P w K mg base "is_sequence" 1 ["value"] spIsSeq := by
  refine D.own sc_is_sequence (fun vs H Q E h => ?_) (fun f cdv A outer s H vs Q E hr h => ?_)
  · obtain ⟨a, xs, rfl, _⟩ := h
    rfl
  · obtain ⟨a, xs, rfl, hS, k⟩ := h
    refine ⟨_, (pss_one (ps_ret (pe_callB call_isiT (by rfl) T.isinstance (by decide +kernel) (pa_cons (pv 0) (pa_cons (pe_tup (pa_cons (pe_bltn (v := .ty "list") (by rfl) T.list (by decide +kernel) rfl) (pa_cons (pe_bltn (v := .ty "tuple") (by rfl) T.tuple (by decide +kernel) rfl) pa_nil))) pa_nil))))), ?_⟩
    walk_at "s"
    walk_at "new"
    rename_i t nt H1 s1 e1
    rcases hS with hS | hS
    · exact ⟨_, _, _, _, _, _, rfl, e1, .cons (.ty _) (.cons (.ty _) .nil), .base (.lst (s1 _ _ hS)), kitAny_cons (kit_ty (a := "list") (b := "list") (r := true) (by decide +kernel)) (fun z => nomatch z) (fun _ => rfl), k _ s1⟩
    · exact ⟨_, _, _, _, _, _, rfl, e1, .cons (.ty _) (.cons (.ty _) .nil), .base (.tup (s1 _ _ hS)), kitAny_cons (kit_ty (a := "tuple") (b := "list") (r := false) (by decide +kernel)) (fun _ => kitAny_cons (kit_ty (a := "tuple") (b := "tuple") (r := true) (by decide +kernel)) (fun z => nomatch z) (fun _ => rfl)) (fun z => nomatch z), k _ s1⟩
/-! ### rows -/
def risesFrom : Option Int → List (Option Int) → Bool
  | _, [] => true
  | none, t :: r => risesFrom t r
  | some _, none :: _ => false
  | some l, some x :: r => if x < l then false else risesFrom (some x) r
abbrev s_rises : Stmt := topS 17
theorem sc_rises : FnScope ["things", "last", "thing"] ["things"] (defScope s_rises) := ⟨rfl, rfl, rfl, by decide +kernel, rfl, by decide +kernel, by decide +kernel⟩
def spRises (K : PySem.W.Frag) : Sp := fun vs H Q _ => ∃ (a : Addr) (xs : List (Option Int)), vs = [.ref a] ∧ SqS K H a (xs.map ov) ∧ Q (.bl (risesFrom none xs)) H
theorem ok_rises (D : Df K mg "_rises" s_rises ["things"]) (o_is_integer : Own P w K mg base "is_integer" 1 ["value"] spIsInt) : Own P w K mg base "_rises" 2 ["things"] (spRises K) := by
  refine D.own sc_rises (fun vs H Q E h => ?_) (fun f cdv A outer s H vs Q E hr h => ?_)
  · obtain ⟨a, xs, rfl, _⟩ := h
    rfl
  · obtain ⟨a, xs, rfl, hS, k⟩ := h
    refine ⟨_, (pss_cons (ps_set (i := 1) sc_rises.nd rfl (Or.inl rfl) pe_non)
  (pss_cons (ps_for PassesOwn.never rfl (pi_alt (pi_list (pv 0)) (pi_tup (pv 0))) (pg_name (i := 2) sc_rises.nd rfl (Or.inl rfl))
    (pss_one (ps_if (pt_cmpR op_notN (pv 2) pe_non (nomark _))
        (pss_cons (ps_if (PW.pt (pw_or (pt_not (pt_val (pe_own o_is_integer (hr.mono (by decide)) (pa_cons (pv 2) pa_nil)))) (pw_or1 (PW.pt (pw_and (pt_cmpR op_notN (pv 1) pe_non (nomark _)) (pw_and1 (pt_cmpR op_lt (pv 2) (pv 1) (nomark _))))))))
            (pss_one (ps_ret pe_bl))
            pss_nil)
          (pss_one (ps_set (i := 1) sc_rises.nd rfl (Or.inl rfl) (pv 2))))
        (pss_one (ps_if (pt_cmpR op_notN (pv 1) pe_non (nomark _))
            (pss_one (ps_ret pe_bl))
            pss_nil)))))
  (pss_one (ps_ret pe_bl)))), ?_⟩
    refine seq_pi hS rfl fun J hJ => for_seq hJ (fun i σ H' => ∃ (l : Option Int) (y : Option V), σ = [some (.ref a), some (ov l), y] ∧ H' = H ∧ risesFrom l (xs.drop i) = risesFrom none xs)
      ⟨none, none, rfl, rfl, rfl⟩ (fun i σ H' ⟨_, _, _, e, _⟩ => e ▸ Same.refl _) ?_ ?_
    · rintro i x σ H' hi ⟨l, y, rfl, rfl, e⟩
      obtain ⟨t, ht, rfl⟩ : ∃ t, xs[i]? = some t ∧ ov t = x := by simpa using hi
      have hd : xs.drop i = t :: xs.drop (i + 1) := by
        obtain ⟨q, rfl⟩ := List.getElem?_eq_some_iff.mp ht
        exact List.drop_eq_getElem_cons q
      rw [hd] at e
      cases t with
      | none =>
        walk_at "s"
        cases l with
        | none =>
          walk_at "s"
          exact e
        | some l =>
          walk_at "s"
          rw [← e] at k
          exact k
      | some t =>
        walk_at "s"
        cases l with
        | none =>
          walk_at "s"
          exact e
        | some l =>
          walk_at "s"
          refine ite2 (fun c => ?_) (fun c => ?_)
          · have c' : t < l := by simpa using c
            rw [← e, show risesFrom (some l) (some t :: xs.drop (i + 1)) = false from if_pos c'] at k
            exact k
          · have c' : ¬ t < l := by simpa using c
            walk_at "s"
            rw [← e]
            exact (if_neg c').symm
    · rintro σ H' ⟨l, y, rfl, rfl, e⟩
      have ed : xs.drop (xs.map ov).length = [] := List.drop_eq_nil_of_le (by simp)
      rw [ed] at e
      have et : risesFrom l [] = true := by cases l <;> rfl
      rw [← e, et] at k
      exact k
end
end My.Rw

namespace My.Rw
open PySem PySem.Spec PyProof.Rows L2
local macro_rules | `(tactic| walk_at "side") => `(tactic| first | (dsimp only; omega) | exact ⟨by omega, by omega⟩ | exact Or.inl ⟨by omega, by omega⟩ | exact Or.inr ⟨by omega, by omega⟩ | decide)
local macro_rules | `(tactic| walk_at "sq") => `(tactic| first | assumption | exact SqL.of (by assumption) | exact SqT.of (by assumption) | (refine L2.Same.seq (by assumption) ?_; walk_at "sq") | (refine L2.Same.seqT (by assumption) ?_; walk_at "sq") | exact Or.inl (by walk_at "sq") | exact Or.inr (by walk_at "sq"))
local macro_rules | `(tactic| walk_at "1") => `(tactic| first
  | refine ⟨_, rfl, iteT ?_⟩
  | refine ⟨_, rfl, iteF ?_⟩
  | refine ⟨_, rfl, ?_⟩
  | refine ⟨_, _, rfl, rfl, (by walk_at "side"), ?_⟩
  | refine ⟨_, _, rfl, rfl, ?_⟩
  | refine ⟨_, _, _, _, true, rfl, .ty _, .base (.int _), kit_ty (a := "int") (by decide +kernel), ?_⟩
  | refine ⟨_, _, _, _, false, rfl, .ty _, .base (.int _), kit_ty (a := "int") (by decide +kernel), ?_⟩
  | refine ⟨_, _, rfl, (by walk_at "sq"), ?_⟩
  | refine ⟨_, _, _, _, rfl, rfl, (by walk_at "sq"), (by first | rfl | assumption), ?_⟩
  | refine Or.inl ⟨_, _, _, _, rfl, rfl, (by walk_at "sq"), (by first | rfl | assumption), ?_⟩
  | refine Or.inr (Or.inl ⟨_, _, _, _, rfl, rfl, (by walk_at "sq"), (by first | rfl | assumption), ?_⟩)
  | refine ⟨rfl, ?_⟩
  | refine iteT ?_
  | refine iteF ?_
  | refine Or.inl ⟨_, rfl, ?_⟩)
local macro_rules | `(tactic| walk_at "s") => `(tactic| repeat walk_at "1")
local macro_rules | `(tactic| walk_at "size") => `(tactic| first | exact Nat.le_of_ble_eq_true rfl | (simp only [List.length_map, List.length_append, List.length_cons, List.length_nil]; omega))
local macro_rules | `(tactic| walk_at "new") => `(tactic| (first | refine ⟨(by walk_at "size"), fun p hp => ?_⟩ | refine fun p hp => ?_); (generalize hq : upd _ p _ = H1); (obtain ⟨s, e⟩ := new_facts hp hq); clear hq)

def SqH (H : Hp) (a : Addr) (xs : List V) : Prop := H a = some (.lst xs) ∨ H a = some (.tup xs)
theorem SqH.sqs {K : PySem.W.Frag} {H : Hp} {a : Addr} {xs : List V} (h : SqH H a xs) : SqS K H a xs := h.imp SqL.of SqT.of
theorem _root_.L2.Same.sqh {H H' : Hp} {a : Addr} {xs : List V} (e : Same H H') (h : SqH H a xs) : SqH H' a xs := h.imp (e _ _) (e _ _)
/-- a row's arguments as they should be -/
structure OkRow (f a : List (Option Int)) (m : Int) : Prop where
  rf : risesFrom none f = true
  ra : risesFrom none a = true
  ne : a ≠ []
  ct : (∃ lo hi : Int, a.head? = some (some lo) ∧ a.getLast? = some (some hi) ∧ (∀ e, f.getLast? = some (some e) → e ≤ lo) ∧ 0 ≤ m ∧ hi - lo ≤ m) ∨
    (a.head? = some none ∧ a.getLast? = some none ∧ (f.getLast? = none ∨ f.getLast? = some none) ∧ m = 0)
theorem atI_neg1 {α : Type} {xs : List α} {v : α} (h : xs.getLast? = some v) : atI xs (-1) = some v := by
  obtain ⟨ys, rfl⟩ := List.getLast?_eq_some_iff.mp h
  exact atI_last ys v
theorem atI_head {α : Type} {xs : List α} {v : α} (h : xs.head? = some v) : atI xs 0 = some v := by
  cases xs with
  | nil => cases h
  | cons x r =>
    cases h
    exact atI_nat (j := 0) rfl
theorem last_map (xs : List (Option Int)) : (xs.map ov).getLast? = xs.getLast?.map ov := by simp
theorem head_map (xs : List (Option Int)) : (xs.map ov).head? = xs.head?.map ov := by simp
section
variable {P : Program} {w : World} {K : PySem.W.Frag} {mg : Str → Option Value} {base : Heap}
abbrev s_wrong_argument : Stmt := topS 18
theorem sc_wrong_argument : FnScope ["first", "again", "more", "end"] ["first", "again", "more"] (defScope s_wrong_argument) := ⟨rfl, rfl, rfl, by decide +kernel, rfl, by decide +kernel, by decide +kernel⟩
def spWrong : Sp := fun vs H Q _ => ∃ (aF aA : Addr) (f a : List (Option Int)) (m : Int), vs = [.ref aF, .ref aA, .int m] ∧ SqH H aF (f.map ov) ∧ SqH H aA (a.map ov) ∧ OkRow f a m ∧ ∀ H', Same H H' → Q .non H'
theorem ok_wrong (D : DfA K mg "wrong_argument_rows" "_wrong_argument" s_wrong_argument ["first", "again", "more"]) (T : Txt mg) (o_is_number : Own P w K mg base "is_number" 2 ["value"] spIsNum) (o_is_sequence : Own P w K mg base "is_sequence" 1 ["value"] spIsSeq)
    (o_rises : Own P w K mg base "_rises" 2 ["things"] (spRises K)) : Own P w K mg base "wrong_argument_rows" 3 ["first", "again", "more"] spWrong := by
  refine D.own sc_wrong_argument (fun vs H Q E h => ?_) (fun fa cdv A outer s H vs Q E hr h => ?_)
  · obtain ⟨_, _, _, _, _, rfl, _⟩ := h
    rfl
  · obtain ⟨aF, aA, f, a, m, rfl, hF, hA, ok, k⟩ := h
    refine ⟨_, (pss_cons (ps_if (PW.pt (pw_or (pt_not (pt_val (pe_own o_is_sequence (hr.mono (by decide)) (pa_cons (pv 0) pa_nil)))) (pw_or1 (pt_not (pt_val (pe_own o_rises (hr.mono (by decide)) (pa_cons (pv 0) pa_nil)))))))
    (pss_one (ps_ret pe_str))
    pss_nil)
  (pss_cons (ps_if (PW.pt (pw_or (pt_not (pt_val (pe_own o_is_sequence (hr.mono (by decide)) (pa_cons (pv 1) pa_nil)))) (pw_or (pt_cmpR op_eq (pe_callB call_len_seq (by rfl) T.len PySem.boot_len (pa_cons (pv 1) pa_nil)) pe_int (nomark _)) (pw_or1 (pt_not (pt_val (pe_own o_rises (hr.mono (by decide)) (pa_cons (pv 1) pa_nil))))))))
    (pss_one (ps_ret pe_str))
    pss_nil)
  (C8.pss_cut (ps_set (i := 3) sc_wrong_argument.nd rfl (Or.inl rfl) (pe_ifExp (pt_cmpR op_gt (pe_callB call_len_seq (by rfl) T.len PySem.boot_len (pa_cons (pv 0) pa_nil)) pe_int (nomark _)) (pe_ix ix_seq (pv 0) (pe_un un_neg pe_int) (fun _ _ => rfl)) pe_non))
  (pss_cons (ps_if (pt_cmpR op_isN (pe_ix ix_seq (pv 1) pe_int (fun _ _ => rfl)) pe_non (nomark _))
    (pss_cons (ps_if (PW.pt (pw_or (pt_cmpR op_notN (pe_ix ix_seq (pv 1) (pe_un un_neg pe_int) (fun _ _ => rfl)) pe_non (nomark _)) (pw_or1 (pt_cmpR op_notN (pv 3) pe_non (nomark _)))))
        (pss_one (ps_ret pe_str))
        pss_nil)
      (pss_one (ps_ret (pe_ifExp (PW.pt (pw_and (pt_val (pe_own o_is_number (hr.mono (by decide)) (pa_cons (pv 2) pa_nil))) (pw_and1 (pt_cmpR op_eq (pv 2) pe_int (nomark _))))) pe_non pe_str))))
    pss_nil)
  (pss_cons (ps_if (PW.pt (pw_and (pt_cmpR op_notN (pv 3) pe_non (nomark _)) (pw_and1 (pt_cmpR op_lt (pe_ix ix_seq (pv 1) pe_int (fun _ _ => rfl)) (pv 3) (nomark _)))))
    (pss_one (ps_ret pe_str))
    pss_nil)
  (pss_one (ps_ret (pe_ifExp (PW.pt (pw_and (pt_val (pe_own o_is_number (hr.mono (by decide)) (pa_cons (pv 2) pa_nil))) (pw_and1 (pt_cmpR op_ge (pv 2) (pe_op op_sub (pe_ix ix_seq (pv 1) (pe_un un_neg pe_int) (fun _ _ => rfl)) (pe_ix ix_seq (pv 1) pe_int (fun _ _ => rfl))) (nomark _))))) pe_non pe_str)))))))), ?_⟩
    walk_at "s"
    refine fun H1 s1 => ?_
    have hF1 : SqS K H1 aF (f.map ov) := (s1.sqh hF).sqs
    have hA1 : SqH H1 aA (a.map ov) := s1.sqh hA
    walk_at "s"
    rw [ok.rf]
    walk_at "s"
    refine fun H2 s2 => ?_
    have hA2 : SqS K H2 aA (a.map ov) := (s2.sqh hA1).sqs
    have hF2 : SqS K H2 aF (f.map ov) := s2.sqs hF1
    walk_at "s"
    have hl : ¬ ((a.map ov).length : Int) = 0 := by
      cases a with
      | nil => exact absurd rfl ok.ne
      | cons x r => simp only [List.map_cons, List.length_cons]; omega
    refine ite2 (fun c => (hl (V.int.inj (of_decide_eq_true c))).elim) (fun _ => ?_)
    walk_at "s"
    rw [ok.ra]
    walk_at "s"
    refine ⟨fun σ' H' => σ' = [some (.ref aF), some (.ref aA), some (.int m), some (ov f.getLast?.join)] ∧ H' = H2, ?_, ?_⟩
    · walk_at "s"
      cases hf : f.getLast? with
      | none =>
        have : f = [] := List.getLast?_eq_none_iff.mp hf
        subst this
        exact ite2 (fun c => by simp at c) (fun _ => ⟨rfl, rfl⟩)
      | some e =>
        have hm : atI (f.map ov) (-1) = some (ov e) := atI_neg1 (by rw [last_map, hf]; rfl)
        have hp : 0 < f.length := by
          cases f with
          | nil => cases hf
          | cons x r => simp
        refine ite2 (fun c => ?_) (fun c => absurd (by simpa using hp) c)
        have hF3 := hF2
        rcases hF3 with hF3 | hF3
        · walk_at "s"
          rfl
        · walk_at "s"
          rfl
    · rintro σ' H' ⟨rfl, rfl⟩
      walk_at "s"
      have fin : Q .non H' := k _ (s1.trans s2)
      rcases ok.ct with ⟨lo, hi, h0, h1, h2, h3, h4⟩ | ⟨h0, h1, h2, h3⟩
      · have hm0 : atI (a.map ov) 0 = some (.int lo) := atI_head (by rw [head_map, h0]; rfl)
        have hm1 : atI (a.map ov) (-1) = some (.int hi) := atI_neg1 (by rw [last_map, h1]; rfl)
        have d0 : decide (0 ≤ m) = true := decide_eq_true h3
        have d1 : decide (hi - lo ≤ m) = true := decide_eq_true h4
        cases hj : f.getLast?.join with
        | none =>
          rcases hA2 with hA2 | hA2
          · walk_at "s"
            rw [d0]
            walk_at "s"
            rw [d1]
            walk_at "s"
            exact fin
          · walk_at "s"
            rw [d0]
            walk_at "s"
            rw [d1]
            walk_at "s"
            exact fin
        | some e =>
          have d2 : decide (lo < e) = false := decide_eq_false (by
            have := h2 e (by cases q : f.getLast? with | none => rw [q] at hj; cases hj | some y => rw [q] at hj; exact congrArg some hj)
            omega)
          rcases hA2 with hA2 | hA2
          · walk_at "s"
            rw [d2]
            walk_at "s"
            rw [d0]
            walk_at "s"
            rw [d1]
            walk_at "s"
            exact fin
          · walk_at "s"
            rw [d2]
            walk_at "s"
            rw [d0]
            walk_at "s"
            rw [d1]
            walk_at "s"
            exact fin
      · have hm0 : atI (a.map ov) 0 = some .non := atI_head (by rw [head_map, h0]; rfl)
        have hm1 : atI (a.map ov) (-1) = some .non := atI_neg1 (by rw [last_map, h1]; rfl)
        have hj : f.getLast?.join = none := by rcases h2 with h2 | h2 <;> rw [h2] <;> rfl
        subst h3
        rw [hj]
        rcases hA2 with hA2 | hA2
        · walk_at "s"
          exact fin
        · walk_at "s"
          exact fin
end
end My.Rw

namespace My.Rw
open PySem PySem.Spec PyProof.Rows L2
local macro_rules | `(tactic| walk_at "side") => `(tactic| first | (dsimp only; omega) | exact ⟨by omega, by omega⟩ | exact Or.inl ⟨by omega, by omega⟩ | exact Or.inr ⟨by omega, by omega⟩ | decide)
local macro_rules | `(tactic| walk_at "sq") => `(tactic| first | assumption | exact SqL.of (by assumption) | exact SqT.of (by assumption) | (refine L2.Same.seq (by assumption) ?_; walk_at "sq") | (refine L2.Same.seqT (by assumption) ?_; walk_at "sq") | exact Or.inl (by walk_at "sq") | exact Or.inr (by walk_at "sq"))
local macro_rules | `(tactic| walk_at "1") => `(tactic| first
  | refine ⟨_, rfl, iteT ?_⟩
  | refine ⟨_, rfl, iteF ?_⟩
  | refine ⟨_, rfl, ?_⟩
  | refine ⟨_, _, rfl, rfl, (by walk_at "side"), ?_⟩
  | refine ⟨_, _, rfl, rfl, ?_⟩
  | refine ⟨_, _, _, _, true, rfl, .ty _, .base (.int _), kit_ty (a := "int") (by decide +kernel), ?_⟩
  | refine ⟨_, _, _, _, false, rfl, .ty _, .base (.int _), kit_ty (a := "int") (by decide +kernel), ?_⟩
  | refine ⟨_, _, rfl, (by walk_at "sq"), ?_⟩
  | refine ⟨_, _, _, _, rfl, rfl, (by walk_at "sq"), (by first | rfl | assumption), ?_⟩
  | refine Or.inl ⟨_, _, _, _, rfl, rfl, (by walk_at "sq"), (by first | rfl | assumption), ?_⟩
  | refine Or.inr (Or.inl ⟨_, _, _, _, rfl, rfl, (by walk_at "sq"), (by first | rfl | assumption), ?_⟩)
  | refine ⟨rfl, ?_⟩
  | refine iteT ?_
  | refine iteF ?_
  | refine Or.inl ⟨_, rfl, ?_⟩)
local macro_rules | `(tactic| walk_at "s") => `(tactic| repeat walk_at "1")
local macro_rules | `(tactic| walk_at "size") => `(tactic| first | exact Nat.le_of_ble_eq_true rfl | (simp only [List.length_map, List.length_append, List.length_cons, List.length_nil]; omega))
local macro_rules | `(tactic| walk_at "new") => `(tactic| (first | refine ⟨(by walk_at "size"), fun p hp => ?_⟩ | refine fun p hp => ?_); (generalize hq : upd _ p _ = H1); (obtain ⟨s, e⟩ := new_facts hp hq); clear hq)

def later1 (m : Int) (t : Option Int) : Option Int := t.map (· + m)
theorem take_succ_map {α β : Type} {xs : List α} {i : Nat} {x : α} (f : α → β) (h : xs[i]? = some x) : (xs.take (i + 1)).map f = (xs.take i).map f ++ [f x] := by
  rw [List.take_add_one, h, List.map_append]
  rfl
theorem get_map {xs : List (Option Int)} {i : Nat} {x : V} (h : (xs.map ov)[i]? = some x) : ∃ t, xs[i]? = some t ∧ ov t = x := by simpa using h
/-! ### times as data -/
def od : Option Int → PyData
  | none => .none
  | some i => .int i
theorem dpAll_ov {K : PySem.W.Frag} {H : Hp} : ∀ xs : List (Option Int), DpAll K H (xs.map ov) (xs.map od)
  | [] => .nil
  | none :: r => .cons .non (dpAll_ov r)
  | some i :: r => .cons (.int i) (dpAll_ov r)
theorem canLay_od : ∀ xs : List (Option Int), PyData.canLayAll0 (xs.map od) = true
  | [] => rfl
  | none :: r => by
    show (true && PyData.canLayAll0 (r.map od)) = true
    rw [canLay_od r]; rfl
  | some i :: r => by
    show (true && PyData.canLayAll0 (r.map od)) = true
    rw [canLay_od r]; rfl
theorem depth_od : ∀ xs : List (Option Int), PyData.depthAll (xs.map od) = 0
  | [] => rfl
  | none :: r => by
    show max 0 (PyData.depthAll (r.map od)) = 0
    rw [depth_od r]; rfl
  | some i :: r => by
    show max 0 (PyData.depthAll (r.map od)) = 0
    rw [depth_od r]; rfl
theorem shaped_l (xs : List (Option Int)) : SeqAt.shaped (.list (xs.map od)) = true := by
  show (PyData.canLayAll0 (xs.map od) && decide (PyData.depthAll (xs.map od) + 1 ≤ 64)) = true
  rw [canLay_od, depth_od]; rfl
theorem shaped_t (xs : List (Option Int)) : SeqAt.shaped (.tuple (xs.map od)) = true := by
  show (PyData.canLayAll0 (xs.map od) && decide (PyData.depthAll (xs.map od) + 1 ≤ 64)) = true
  rw [canLay_od, depth_od]; rfl
theorem eqv_od (x y : Option Int) : PyData.eqv (od x) (od y) = decide (x = y) := by
  cases x <;> cases y
  · rfl
  · rfl
  · rfl
  · rename_i i j
    show (i == j) = decide (some i = some j)
    by_cases e : i = j
    · subst e; simp
    · rw [beq_eq_false_iff_ne.mpr e]
      exact (decide_eq_false fun q => e (Option.some.inj q)).symm
theorem eqvAll_od : ∀ xs ys : List (Option Int), PyData.eqvAll (xs.map od) (ys.map od) = decide (xs = ys)
  | [], [] => rfl
  | [], _ :: _ => rfl
  | _ :: _, [] => rfl
  | x :: xs, y :: ys => by
    show (PyData.eqv (od x) (od y) && PyData.eqvAll (xs.map od) (ys.map od)) = decide (x :: xs = y :: ys)
    rw [eqv_od, eqvAll_od xs ys]
    by_cases e : x = y
    · subst e; simp
    · rw [decide_eq_false e]
      exact (decide_eq_false fun q => e (List.cons.inj q).1).symm
theorem eqv_l (xs ys : List (Option Int)) : PyData.eqv (.list (xs.map od)) (.list (ys.map od)) = decide (xs = ys) := eqvAll_od xs ys
theorem eqv_t (xs ys : List (Option Int)) : PyData.eqv (.tuple (xs.map od)) (.tuple (ys.map od)) = decide (xs = ys) := eqvAll_od xs ys
/-- two lists of times compared -/
theorem rd_eqL {K : PySem.W.Frag} {H : Hp} {Q : VK} {p q : Addr} (xs ys : List (Option Int)) (h1 : SqL K H p (xs.map ov)) (h2 : SqL K H q (ys.map ov)) (k : Q (.bl (decide (xs = ys))) H) : rEqD K (.ref p) (.ref q) H Q :=
  ⟨_, _, .lst h1 (dpAll_ov xs), .lst h2 (dpAll_ov ys), shaped_l xs, shaped_l ys, by
    rw [show PyData.eqv (.list (xs.map od)) (.list (ys.map od)) = PyData.eqvAll (xs.map od) (ys.map od) from rfl, eqvAll_od]
    exact k⟩
theorem cut_from {xs : List V} {t : Nat} (h : t ≤ xs.length) : cutV xs (some (t : Int)) none = xs.drop t := by
  unfold cutV
  rw [HT.sIx_nat, HT.sIx_none, Nat.min_eq_left h]
  exact List.take_of_length_le (by rw [List.length_drop]; omega)
theorem cut_to {xs : List V} {t : Nat} (h : t ≤ xs.length) : cutV xs none (some (t : Int)) = xs.take t := by
  unfold cutV
  rw [HT.sIx_nat, HT.sIx_none, Nat.min_eq_left h, Nat.sub_zero]
  rfl
theorem cut_mid {xs : List V} {b t : Nat} (h : t ≤ xs.length) (hb : b ≤ t) : cutV xs (some (b : Int)) (some (t : Int)) = (xs.drop b).take (t - b) := by
  unfold cutV
  rw [HT.sIx_nat, HT.sIx_nat, Nat.min_eq_left h, Nat.min_eq_left (Nat.le_trans hb h)]
section
variable {P : Program} {w : World} {K : PySem.W.Frag} {mg : Str → Option Value} {base : Heap}
abbrev s_all_later : Stmt := topS 21
theorem sc_all_later : FnScope ["things", "lasts", "thing"] ["things", "lasts"] (defScope s_all_later) := ⟨rfl, rfl, rfl, by decide +kernel, rfl, by decide +kernel, by decide +kernel⟩
def spAllLater (K : PySem.W.Frag) : Sp := fun vs H Q _ => ∃ (a : Addr) (xs : List (Option Int)) (m : Int), vs = [.ref a, .int m] ∧ SqS K H a (xs.map ov) ∧ xs.length < sizeLine ∧ ∀ H' p, Same H H' → H p = none → H' p = some (.lst ((xs.map (later1 m)).map ov)) → Q (.ref p) H'
theorem ok_all_later (D : Df K mg "all_later" s_all_later ["things", "lasts"]) : Own P w K mg base "all_later" 1 ["things", "lasts"] (spAllLater K) := by
  refine D.own sc_all_later (fun vs H Q E h => ?_) (fun fa cdv A outer s H vs Q E hr h => ?_)
  · obtain ⟨_, _, _, rfl, _⟩ := h
    rfl
  · obtain ⟨a, xs, m, rfl, hS, hz, k⟩ := h
    refine ⟨_, (pss_one (ps_ret (pe_lc (own := [("thing", 2)]) (g := gName 2) (tt := tYes) rfl sc_all_later.nd (pi_alt (pi_list (pv 0)) (pi_tup (pv 0))) (blkOk_by (own := [("thing", 2)]) (N := ["things", "lasts", "thing"]) (sc := defScope s_all_later) (by decide +kernel)) (fun _ _ _ _ _ => (pg_name (i := 2) sc_all_later.nd rfl (Or.inl rfl))) (fun _ _ _ _ _ => pts_nil) (fun _ _ _ _ _ => (pe_ifExp (pt_cmpR op_isN (pv 2) pe_non (nomark _)) pe_non (pe_op op_add (pv 2) (pv 1))))))), ?_⟩
    refine seq_pi hS rfl fun J hJ => fun L nL => lc_seq hJ (fun i H' => Same H H' ∧ H' L = some (.lst (((xs.take i).map (later1 m)).map ov))) ⟨same_upd nL, upd_same⟩ (fun i H' q => q.1) ?_ ?_
    · rintro i x H' hi ⟨s1, e1⟩
      obtain ⟨t, ht, rfl⟩ := get_map hi
      have fin : Same H (upd H' L (.lst ((((xs.take i).map (later1 m)).map ov) ++ [ov (later1 m t)]))) ∧ (upd H' L (.lst ((((xs.take i).map (later1 m)).map ov) ++ [ov (later1 m t)]))) L = some (.lst (((xs.take (i + 1)).map (later1 m)).map ov)) := by
        refine ⟨s1.upd1 nL, ?_⟩
        rw [upd_same, take_succ_map _ ht, List.map_append]
        rfl
      have hz' : (((xs.take i).map (later1 m)).map ov).length < sizeLine := by
        rw [List.length_map, List.length_map, List.length_take]
        exact Nat.lt_of_le_of_lt (Nat.min_le_right _ _) hz
      cases t with
      | none =>
        walk_at "s"
        exact ⟨_, e1, hz', fin⟩
      | some t =>
        walk_at "s"
        exact ⟨_, e1, hz', fin⟩
    · rintro H' ⟨s1, e1⟩
      rw [show (xs.map ov).length = xs.length by simp, List.take_length] at e1
      exact k _ _ s1 nL e1
abbrev s_shortest_turn : Stmt := topS 20
theorem sc_shortest_turn : FnScope ["again", "more", "whole", "turn"] ["again", "more"] (defScope s_shortest_turn) := ⟨rfl, rfl, rfl, by decide +kernel, rfl, by decide +kernel, by decide +kernel⟩
/-- again comes again after t things -/
structure Fits (a : List (Option Int)) (m : Int) (t : Nat) : Prop where
  pos : 0 < t
  dvd : t ∣ a.length
  num : (m * t) % a.length = 0
  eq : a.drop t = (a.take (a.length - t)).map (later1 (m * t / a.length))
/-- the least one -/
structure LeastTurn (a : List (Option Int)) (m : Int) (t : Nat) : Prop where
  le : t ≤ a.length
  fits : Fits a m t
  least : ∀ t', t' < t → ¬ Fits a m t'
theorem fits_whole {a : List (Option Int)} {m : Int} (h : a ≠ []) : Fits a m a.length :=
  ⟨List.length_pos_iff.mpr h, Nat.dvd_refl _, by simp, by simp⟩
def spShortT : Sp := fun vs H Q _ => ∃ (aA : Addr) (a : List (Option Int)) (m : Int), vs = [.ref aA, .int m] ∧ SqH H aA (a.map ov) ∧ a ≠ [] ∧ a.length < 1000 ∧ 0 ≤ m ∧ m < 2 ^ 60 ∧ ∀ H' t, Same H H' → LeastTurn a m t → Q (.int (t : Int)) H'
theorem ok_shortest_turn (D : Df K mg "_shortest_turn" s_shortest_turn ["again", "more"]) (T : Txt mg) (o_all_later : Own P w K mg base "all_later" 1 ["things", "lasts"] (spAllLater K)) : Own P w K mg base "_shortest_turn" 2 ["again", "more"] spShortT := by
  refine D.own sc_shortest_turn (fun vs H Q E h => ?_) (fun fa cdv A outer s H vs Q E hr h => ?_)
  · obtain ⟨_, _, _, rfl, _⟩ := h
    rfl
  · obtain ⟨aA, a, m, rfl, hA, hne, hz, m0, m1, k⟩ := h
    refine ⟨_, (pss_cons (ps_set (i := 2) sc_shortest_turn.nd rfl (Or.inl rfl) (pe_callB call_len_seq (by rfl) T.len PySem.boot_len (pa_cons (pv 0) pa_nil)))
  (pss_cons (ps_for PassesOwn.never rfl (pi_range2 (by rfl) T.range (pa_cons pe_int (pa_cons (pv 2) pa_nil))) (pg_name (i := 3) sc_shortest_turn.nd rfl (Or.inl rfl))
    (pss_one (ps_if (PW.pt (pw_and (pt_cmpR op_eq (pe_op op_mod (pv 2) (pv 3)) pe_int (nomark _)) (pw_and1 (pt_cmpR op_eq (pe_op op_mod (pe_op op_mul (pv 1) (pv 3)) (pv 2)) pe_int (nomark _)))))
        (pss_one (ps_if (pt_cmpR (op_eqD hr.units) (pe_callTy call_list_of (by rfl) T.list (by decide +kernel) (pa_cons (pe_slice (SlR.or sl_list sl_tup) (pv 0) (po_some (pv 3)) po_none) pa_nil)) (pe_own o_all_later (hr.mono (by decide)) (pa_cons (pe_slice (SlR.or sl_list sl_tup) (pv 0) po_none (po_some (pe_op op_sub (pv 2) (pv 3)))) (pa_cons (pe_op op_fdiv (pe_op op_mul (pv 1) (pv 3)) (pv 2)) pa_nil))) (nomark _))
            (pss_one (ps_ret (pv 3)))
            pss_nil))
        pss_nil)))
  (pss_one (ps_ret (pv 2))))), ?_⟩
    have hA' : SqS K H aA (a.map ov) := hA.sqs
    have hlen : (a.map ov).length = a.length := List.length_map ..
    have hp : 0 < a.length := List.length_pos_iff.mpr hne
    walk_at "s"
    rw [hlen]
    refine ⟨1, a.length, rfl, ⟨by decide, by decide, by omega, by omega⟩, for_range (lo := 1) (n := ((a.length : Int) - 1).toNat) (fun i σ H' => ∃ y, σ = [some (.ref aA), some (.int m), some (.int (a.length : Int)), y] ∧ Same H H' ∧ ∀ t', t' < i + 1 → ¬ Fits a m t')
      ⟨_, rfl, Same.refl _, fun t' ht f => by have := f.pos; omega⟩ ?_ ?_⟩
    · rintro i σ H' hi ⟨y, rfl, s1, hno⟩
      have ei : (1 : Int) + (i : Int) = ((i + 1 : Nat) : Int) := by omega
      have hi1 : i + 1 < a.length := by omega
      rw [ei]
      have nxt : ¬ Fits a m (i + 1) → ∀ t', t' < i + 1 + 1 → ¬ Fits a m t' := fun h t' ht f => by
        by_cases e : t' = i + 1
        · rw [e] at f
          exact h f
        · exact hno t' (by omega) f
      walk_at "s"
      refine ite2 (fun c1 => ?_) (fun c1 => ?_)
      · walk_at "s"
        refine ite2 (fun c2 => ?_) (fun c2 => ?_)
        · walk_at "s"
          have hle : i + 1 ≤ (a.map ov).length := by omega
          have nw1 : ¬ (HT.sIx (a.map ov).length 0 (some ((i + 1 : Nat) : Int)) = 0 ∧ HT.sIx (a.map ov).length (a.map ov).length none = (a.map ov).length) := fun q => by
            have q1 := q.1
            rw [HT.sIx_nat] at q1
            omega
          have esub : ((a.length : Int) - ((i + 1 : Nat) : Int)) = ((a.length - (i + 1) : Nat) : Int) := by omega
          have nw2 : ¬ (HT.sIx (a.map ov).length 0 none = 0 ∧ HT.sIx (a.map ov).length (a.map ov).length (some ((a.length - (i + 1) : Nat) : Int)) = (a.map ov).length) := fun q => by
            have q1 := q.2
            rw [HT.sIx_nat] at q1
            omega
          rcases hA with hA | hA
          all_goals (
            first
              | refine Or.inl ⟨_, _, rfl, SqL.of (s1 _ _ hA), ?_⟩
              | refine Or.inr ⟨_, _, rfl, SqT.of (s1 _ _ hA), nw1, ?_⟩
            walk_at "new"
            rename_i p1 n1 H1 s2 e1
            rw [cut_from hle, ← List.map_drop] at e1
            walk_at "s"
            walk_at "new"
            rename_i p2 n2 H2 s3 e2
            walk_at "s"
            rw [esub]
            first
              | refine Or.inl ⟨_, _, rfl, SqL.of (s3 _ _ (s2 _ _ (s1 _ _ hA))), ?_⟩
              | refine Or.inr ⟨_, _, rfl, SqT.of (s3 _ _ (s2 _ _ (s1 _ _ hA))), nw2, ?_⟩
            walk_at "new"
            rename_i p3 n3 H3 s4 e3
            rw [cut_to (by omega), ← List.map_take] at e3
            walk_at "s"
            refine ⟨p3, a.take (a.length - (i + 1)), _, rfl, (by first | exact Or.inl (SqL.of e3) | exact Or.inr (SqT.of e3)), Nat.lt_of_le_of_lt (by rw [List.length_take]; omega) (small1000 (by omega : 1000 ≤ 1000)), fun H4 p4 s5 n4 e4 => ?_⟩
            refine ⟨_, _, .lst (SqL.of (s5 _ _ (s4 _ _ e2))) (dpAll_ov _), .lst (SqL.of e4) (dpAll_ov _), shaped_l _, shaped_l _, ?_⟩
            rw [eqv_l]
            have s6 : Same H H4 := s1.trans (s2.trans (s3.trans (s4.trans s5)))
            walk_at "s"
            have m1e : ((a.length : Int) % ((i + 1 : Nat) : Int)) = 0 := V.int.inj (of_decide_eq_true c1)
            have m2e : (m * ((i + 1 : Nat) : Int)) % (a.length : Int) = 0 := V.int.inj (of_decide_eq_true c2)
            refine ite2 (fun c3 => ?_) (fun c3 => ?_)
            · walk_at "s"
              exact k _ _ s6 ⟨by omega, ⟨by omega, Nat.dvd_of_mod_eq_zero (by omega), m2e, of_decide_eq_true c3⟩, fun t' ht => hno t' (by omega)⟩
            · walk_at "s"
              exact ⟨s6, nxt fun f => c3 (decide_eq_true f.eq)⟩)
        · walk_at "s"
          refine ⟨s1, nxt fun f => c2 (decide_eq_true (congrArg V.int f.num))⟩
      · walk_at "s"
        refine ⟨s1, nxt fun f => c1 (decide_eq_true (congrArg V.int ?_))⟩
        have := Nat.mod_eq_zero_of_dvd f.dvd
        omega
    · rintro σ H' ⟨y, rfl, s1, hno⟩
      walk_at "s"
      refine k _ _ s1 ⟨Nat.le_refl _, fits_whole hne, fun t' ht f => hno t' (by omega) f⟩
end
end My.Rw

namespace My.Rw
open PySem PySem.Spec PyProof.Rows L2
local macro_rules | `(tactic| walk_at "side") => `(tactic| first | (dsimp only; omega) | exact ⟨by omega, by omega⟩ | exact Or.inl ⟨by omega, by omega⟩ | exact Or.inr ⟨by omega, by omega⟩ | decide)
local macro_rules | `(tactic| walk_at "sq") => `(tactic| first | assumption | exact SqL.of (by assumption) | exact SqT.of (by assumption) | (refine L2.Same.seq (by assumption) ?_; walk_at "sq") | (refine L2.Same.seqT (by assumption) ?_; walk_at "sq") | exact Or.inl (by walk_at "sq") | exact Or.inr (by walk_at "sq"))
local macro_rules | `(tactic| walk_at "1") => `(tactic| first
  | refine ⟨_, rfl, iteT ?_⟩
  | refine ⟨_, rfl, iteF ?_⟩
  | refine ⟨_, rfl, ?_⟩
  | refine ⟨_, _, rfl, rfl, (by walk_at "side"), ?_⟩
  | refine ⟨_, _, rfl, rfl, ?_⟩
  | refine ⟨_, _, _, _, true, rfl, .ty _, .base (.int _), kit_ty (a := "int") (by decide +kernel), ?_⟩
  | refine ⟨_, _, _, _, false, rfl, .ty _, .base (.int _), kit_ty (a := "int") (by decide +kernel), ?_⟩
  | refine ⟨_, _, rfl, (by walk_at "sq"), ?_⟩
  | refine ⟨_, _, _, _, rfl, rfl, (by walk_at "sq"), (by first | rfl | assumption), ?_⟩
  | refine Or.inl ⟨_, _, _, _, rfl, rfl, (by walk_at "sq"), (by first | rfl | assumption), ?_⟩
  | refine Or.inr (Or.inl ⟨_, _, _, _, rfl, rfl, (by walk_at "sq"), (by first | rfl | assumption), ?_⟩)
  | refine ⟨rfl, ?_⟩
  | refine iteT ?_
  | refine iteF ?_
  | refine Or.inl ⟨_, rfl, ?_⟩)
local macro_rules | `(tactic| walk_at "s") => `(tactic| repeat walk_at "1")
local macro_rules | `(tactic| walk_at "size") => `(tactic| first | exact Nat.le_of_ble_eq_true rfl | (simp only [List.length_map, List.length_append, List.length_cons, List.length_nil]; omega))
local macro_rules | `(tactic| walk_at "new") => `(tactic| (first | refine ⟨(by walk_at "size"), fun p hp => ?_⟩ | refine fun p hp => ?_); (generalize hq : upd _ p _ = H1); (obtain ⟨s, e⟩ := new_facts hp hq); clear hq)

/-- the least begin from which on what stands comes again -/
structure ShortF (xs : List (Option Int)) (t : Nat) (g : Int) (b b' : Nat) : Prop where
  le : b' ≤ b
  eq : ∀ n, b' ≤ n → n < b → xs[n + t]? = (xs[n]?).map (later1 g)
  least : b' = 0 ∨ xs[b' - 1 + t]? ≠ (xs[b' - 1]?).map (later1 g)
section
variable {P : Program} {w : World} {K : PySem.W.Frag} {mg : Str → Option Value} {base : Heap}
abbrev s_shortest_first : Stmt := topS 22
theorem sc_shortest_first : FnScope ["things", "begin", "turn", "grow"] ["things", "begin", "turn", "grow"] (defScope s_shortest_first) := ⟨rfl, rfl, rfl, by decide +kernel, rfl, by decide +kernel, by decide +kernel⟩
def spShortF : Sp := fun vs H Q _ => ∃ (aT : Addr) (xs : List (Option Int)) (b t : Nat) (g : Int), vs = [.ref aT, .int b, .int t, .int g] ∧ H aT = some (.lst (xs.map ov)) ∧ 0 < t ∧ b + t ≤ xs.length ∧ ∀ H' b', Same H H' → ShortF xs t g b b' → Q (.int (b' : Nat)) H'
theorem ok_shortest_first (D : DfA K mg "shortest_first_rows" "_shortest_first" s_shortest_first ["things", "begin", "turn", "grow"]) (o_all_later : Own P w K mg base "all_later" 1 ["things", "lasts"] (spAllLater K)) : Own P w K mg base "shortest_first_rows" 2 ["things", "begin", "turn", "grow"] spShortF := by
  refine D.own sc_shortest_first (fun vs H Q E h => ?_) (fun fa cdv A outer s H vs Q E hr h => ?_)
  · obtain ⟨_, _, _, _, _, rfl, _⟩ := h
    rfl
  · obtain ⟨aT, xs, b, t, g, rfl, hT, ht, hbt, k⟩ := h
    refine ⟨_, (pss_cons (ps_while PassesOwn.never (PW.pt (pw_and (pt_cmpR op_gt (pv 1) pe_int (nomark _)) (pw_and1 (pt_cmpR (op_eqD hr.units) (pe_lst (pa_cons (pe_ix ix_list (pv 0) (pe_op op_add (pe_op op_sub (pv 1) pe_int) (pv 2)) (fun _ _ => rfl)) pa_nil)) (pe_own o_all_later (hr.mono (by decide)) (pa_cons (pe_lst (pa_cons (pe_ix ix_list (pv 0) (pe_op op_sub (pv 1) pe_int) (fun _ _ => rfl)) pa_nil)) (pa_cons (pv 3) pa_nil))) (nomark _)))))
    (pss_one (ps_aug (i := 1) sc_shortest_first.nd rfl (Or.inl rfl) pe_int ip_sub)))
  (pss_one (ps_ret (pv 1)))), ?_⟩
    refine ⟨fun m σ H' => m ≤ b ∧ σ = [some (.ref aT), some (.int (m : Nat)), some (.int (t : Nat)), some (.int g)] ∧ Same H H' ∧ ∀ n, m ≤ n → n < b → xs[n + t]? = (xs[n]?).map (later1 g),
      ⟨b, Nat.le_refl _, rfl, Same.refl _, fun n h1 h2 => absurd h1 (by omega)⟩, ?_⟩
    rintro m σ H' ⟨hm, rfl, s1, he⟩
    cases m with
    | zero =>
      walk_at "s"
      exact k _ _ s1 ⟨Nat.zero_le _, he, Or.inl rfl⟩
    | succ m =>
      walk_at "s"
      have hp : decide ((0 : Int) < ((m + 1 : Nat) : Int)) = true := decide_eq_true (by omega)
      rw [hp]
      walk_at "s"
      have l1 : m + t < xs.length := by omega
      have l2 : m < xs.length := by omega
      have g1 : (xs.map ov)[m + t]? = some (ov xs[m + t]) := by rw [List.getElem?_map, List.getElem?_eq_getElem l1]; rfl
      have g2 : (xs.map ov)[m]? = some (ov xs[m]) := by rw [List.getElem?_map, List.getElem?_eq_getElem l2]; rfl
      refine ⟨_, _, _, _, rfl, rfl, SqL.of (s1 _ _ hT), at_of (by omega) g1, ?_⟩
      walk_at "s"
      walk_at "new"
      rename_i p1 n1 H1 s2 e1
      walk_at "s"
      refine ⟨_, _, _, _, rfl, rfl, SqL.of (s2 _ _ (s1 _ _ hT)), at_of (by omega) g2, ?_⟩
      walk_at "s"
      walk_at "new"
      rename_i p2 n2 H2 s3 e2
      walk_at "s"
      refine ⟨p2, [xs[m]], g, rfl, Or.inl (SqL.of e2), by exact Nat.lt_of_lt_of_le (by decide : 1 < 1000) (Nat.le_of_lt (small1000 (Nat.le_refl _))), fun H3 p3 s4 n4 e3 => ?_⟩
      refine ⟨_, _, .lst (xs := [xs[m + t]].map ov) (SqL.of (s4 _ _ (s3 _ _ e1))) (dpAll_ov [xs[m + t]]), .lst (SqL.of e3) (dpAll_ov _), shaped_l _, shaped_l _, ?_⟩
      rw [eqv_l]
      walk_at "s"
      have s5 : Same H H3 := s1.trans (s2.trans (s3.trans s4))
      have hx : xs[m + t]? = some xs[m + t] := List.getElem?_eq_getElem l1
      have hy : xs[m]? = some xs[m] := List.getElem?_eq_getElem l2
      refine ite2 (fun c => ?_) (fun c => ?_)
      · have c' := of_decide_eq_true c
        have c2 : xs[m + t] = later1 g xs[m] := by simpa using c'
        refine ⟨fun σ' H'' => σ' = [some (.ref aT), some (.int (m : Nat)), some (.int (t : Nat)), some (.int g)] ∧ H'' = H3, ?_, ?_⟩
        · rintro σ' H'' ⟨rfl, rfl⟩
          refine ⟨m, by omega, by omega, rfl, s5, fun n h1 h2 => ?_⟩
          by_cases e : n = m
          · rw [e, hx, hy, c2]; rfl
          · exact he n (by omega) h2
        · walk_at "s"
          refine ⟨?_, rfl⟩
          show [some (V.ref aT), some (V.int (((m + 1 : Nat) : Int) - 1)), some (V.int (t : Nat)), some (V.int g)] = _
          rw [show ((m + 1 : Nat) : Int) - 1 = (m : Int) by omega]
      · have c2 : ¬ xs[m + t] = later1 g xs[m] := fun q => c (decide_eq_true (by rw [q]; rfl))
        walk_at "s"
        refine k _ _ s5 ⟨hm, he, Or.inr ?_⟩
        show xs[m + t]? ≠ (xs[m]?).map (later1 g)
        rw [hx, hy]
        exact fun q => c2 (Option.some.inj q)
end
end My.Rw

namespace My.Rw
open PySem PySem.Spec PyProof.Rows L2
local macro_rules | `(tactic| walk_at "side") => `(tactic| first | (dsimp only; omega) | exact ⟨by omega, by omega⟩ | exact Or.inl ⟨by omega, by omega⟩ | exact Or.inr ⟨by omega, by omega⟩ | decide)
local macro_rules | `(tactic| walk_at "sq") => `(tactic| first | assumption | exact SqL.of (by assumption) | exact SqT.of (by assumption) | (refine L2.Same.seq (by assumption) ?_; walk_at "sq") | (refine L2.Same.seqT (by assumption) ?_; walk_at "sq") | exact Or.inl (by walk_at "sq") | exact Or.inr (by walk_at "sq"))
local macro_rules | `(tactic| walk_at "1") => `(tactic| first
  | refine ⟨_, rfl, iteT ?_⟩
  | refine ⟨_, rfl, iteF ?_⟩
  | refine ⟨_, rfl, ?_⟩
  | refine ⟨_, _, rfl, rfl, (by walk_at "side"), ?_⟩
  | refine ⟨_, _, rfl, rfl, ?_⟩
  | refine ⟨_, _, _, _, true, rfl, .ty _, .base (.int _), kit_ty (a := "int") (by decide +kernel), ?_⟩
  | refine ⟨_, _, _, _, false, rfl, .ty _, .base (.int _), kit_ty (a := "int") (by decide +kernel), ?_⟩
  | refine ⟨_, _, rfl, (by walk_at "sq"), ?_⟩
  | refine ⟨_, _, _, _, rfl, rfl, (by walk_at "sq"), (by first | rfl | assumption), ?_⟩
  | refine Or.inl ⟨_, _, _, _, rfl, rfl, (by walk_at "sq"), (by first | rfl | assumption), ?_⟩
  | refine Or.inr (Or.inl ⟨_, _, _, _, rfl, rfl, (by walk_at "sq"), (by first | rfl | assumption), ?_⟩)
  | refine ⟨_, _, rfl, Or.inl ⟨(by walk_at "sq"), ?_⟩⟩
  | refine ⟨rfl, ?_⟩
  | refine iteT ?_
  | refine iteF ?_
  | refine Or.inl ⟨_, rfl, ?_⟩)
local macro_rules | `(tactic| walk_at "s") => `(tactic| repeat walk_at "1")
local macro_rules | `(tactic| walk_at "size") => `(tactic| first | exact Nat.le_of_ble_eq_true rfl | (simp only [List.length_map, List.length_append, List.length_cons, List.length_nil]; omega))
local macro_rules | `(tactic| walk_at "new") => `(tactic| (first | refine ⟨(by walk_at "size"), fun p hp => ?_⟩ | refine fun p hp => ?_); (generalize hq : upd _ p _ = H1); (obtain ⟨s, e⟩ := new_facts hp hq); clear hq)

theorem upd_facts {H H1 : Hp} {p : Addr} {o : HO} (hq : upd H p o = H1) : H1 p = some o ∧ ∀ b, b ≠ p → H1 b = H b := by
  subst hq
  exact ⟨upd_same, fun b h => upd_ne h⟩
/-- a row's attributes -/
def rowF (pf pa : Addr) (m : Int) : List (Str × V) := [("first", .ref pf), ("again", .ref pa), ("more", .int m)]
def RowAt (C : Addr) (H : Hp) (p : Addr) (f a : List (Option Int)) (m : Int) : Prop :=
  ∃ dx pf pa, H p = some (.ins C dx (rowF pf pa m)) ∧ H pf = some (.tup (f.map ov)) ∧ H pa = some (.tup (a.map ov))
theorem _root_.L2.Same.row {C : Addr} {H H' : Hp} {p : Addr} {f a : List (Option Int)} {m : Int} (s : Same H H') (h : RowAt C H p f a m) : RowAt C H' p f a m := by
  obtain ⟨dx, pf, pa, h1, h2, h3⟩ := h
  exact ⟨dx, pf, pa, s _ _ h1, s _ _ h2, s _ _ h3⟩
/-- the least form of a row -/
def MadeOf (f a : List (Option Int)) (m : Int) (f' a' : List (Option Int)) (m' : Int) : Prop :=
  ∃ t b, LeastTurn a m t ∧ ShortF (f ++ a) t (m * t / a.length) f.length b ∧ f' = (f ++ a).take b ∧ a' = ((f ++ a).drop b).take t ∧ m' = m * t / a.length
structure RowCls (K : PySem.W.Frag) (mg : Str → Option Value) (C : Addr) : Prop where
  cl : Cls K C
  nF : NoAttr K C "first"
  nA : NoAttr K C "again"
  nM : NoAttr K C "more"
section
variable {P : Program} {w : World} {K : PySem.W.Frag} {mg : Str → Option Value} {base : Heap} {C : Addr}
abbrev s_Row_init : Stmt := inClass (topS 16) 0
theorem sc_Row_init : FnScope ["self", "first", "again", "more", "word", "turn", "grow", "things", "begin"] ["self", "first", "again", "more"] (defScope s_Row_init) := ⟨rfl, rfl, rfl, by decide +kernel, rfl, by decide +kernel, by decide +kernel⟩
def spInit (C : Addr) : Sp := fun vs H Q _ => ∃ (H0 : Hp) (p dx aF aA : Addr) (f a : List (Option Int)) (m : Int), vs = [.ref p, .ref aF, .ref aA, .int m] ∧ H0 p = none ∧ Same H0 H ∧ H p = some (.ins C dx []) ∧ SqH H0 aF (f.map ov) ∧ SqH H0 aA (a.map ov) ∧
  OkRow f a m ∧ f.length < 500 ∧ a.length < 500 ∧ 0 ≤ m ∧ m < 2 ^ 60 ∧ ∀ H' f' a' m', Same H0 H' → RowAt C H' p f' a' m' → MadeOf f a m f' a' m' → Q .non H'
theorem ok_init {f1 : Addr} {fd : FuncData} (F : FunD K "__init__" "Row.__init__" (defArgs s_Row_init) (defBody s_Row_init) (defScope s_Row_init) [.int 0] [] f1 fd) (R : RowCls K mg C) (T : Txt mg)
    (o_wrong_argument : Own P w K mg base "wrong_argument_rows" 3 ["first", "again", "more"] spWrong) (o_shortest_turn : Own P w K mg base "_shortest_turn" 2 ["again", "more"] spShortT)
    (o_shortest_first : Own P w K mg base "shortest_first_rows" 2 ["things", "begin", "turn", "grow"] spShortF) : FnOk P w K mg base CX0 4 f1 fd ["self", "first", "again", "more"] (spInit C) := by
  refine F.ok sc_Row_init (fun vs H Q E h => ?_) (fun cdv A outer s H vs Q E hr h => ?_)
  · obtain ⟨_, _, _, _, _, _, _, _, rfl, _⟩ := h
    rfl
  · obtain ⟨H0, p, dx, aF, aA, f, a, m, rfl, hp0, s0, hp, hF, hA, ok, lf, la, m0, m1, k⟩ := h
    refine ⟨_, (pss_cons (ps_set (i := 4) sc_Row_init.nd rfl (Or.inl rfl) (pe_own o_wrong_argument (hr.mono (by decide)) (pa_cons (pv 1) (pa_cons (pv 2) (pa_cons (pv 3) pa_nil)))))
  (pss_cons (ps_if (pt_cmpR op_notN (pv 4) pe_non (nomark _))
    (pss_one ps_never)
    pss_nil)
  (pss_cons (ps_set (i := 5) sc_Row_init.nd rfl (Or.inl rfl) (pe_own o_shortest_turn (hr.mono (by decide)) (pa_cons (pv 2) (pa_cons (pv 3) pa_nil))))
  (pss_cons (ps_set (i := 6) sc_Row_init.nd rfl (Or.inl rfl) (pe_op op_fdiv (pe_op op_mul (pv 3) (pv 5)) (pe_callB call_len_seq (by rfl) T.len PySem.boot_len (pa_cons (pv 2) pa_nil))))
  (pss_cons (ps_set (i := 7) sc_Row_init.nd rfl (Or.inl rfl) (pe_lst (StX.pa_star (pv 1) (StX.pa_star (pv 2) pa_nil))))
  (pss_cons (ps_set (i := 8) sc_Row_init.nd rfl (Or.inl rfl) (pe_own o_shortest_first (hr.mono (by decide)) (pa_cons (pv 7) (pa_cons (pe_callB call_len_seq (by rfl) T.len PySem.boot_len (pa_cons (pv 1) pa_nil)) (pa_cons (pv 5) (pa_cons (pv 6) pa_nil))))))
  (pss_cons (ps_fld (pv 0) (pe_callTy call_tuple_of (by rfl) T.tuple (by decide +kernel) (pa_cons (pe_slice sl_list (pv 7) po_none (po_some (pv 8))) pa_nil)) rfl)
  (pss_cons (ps_fld (pv 0) (pe_callTy call_tuple_of (by rfl) T.tuple (by decide +kernel) (pa_cons (pe_slice sl_list (pv 7) (po_some (pv 8)) (po_some (pe_op op_add (pv 8) (pv 5)))) pa_nil)) rfl)
  (pss_one (ps_fld (pv 0) (pv 6) rfl)))))))))), ?_⟩
    have h1000 : 1000 < sizeLine := small1000 (Nat.le_refl _)
    walk_at "s"
    refine ⟨aF, aA, f, a, m, rfl, s0.sqh hF, s0.sqh hA, ok, fun H1 s1 => ?_⟩
    walk_at "s"
    refine ⟨aA, a, m, rfl, s1.sqh (s0.sqh hA), ok.ne, by omega, m0, m1, fun H2 t s2 ht => ?_⟩
    have t0 := ht.fits.pos
    have t1 := ht.le
    have hA2 : SqH H2 aA (a.map ov) := s2.sqh (s1.sqh (s0.sqh hA))
    have hF2 : SqH H2 aF (f.map ov) := s2.sqh (s1.sqh (s0.sqh hF))
    have hA2s : SqL K H2 aA (a.map ov) ∨ SqT K H2 aA (a.map ov) := hA2.sqs
    have hA2t : SqT K H2 aA (a.map ov) ∨ SqL K H2 aA (a.map ov) := hA2.sqs.symm
    have hF2t : SqT K H2 aF (f.map ov) ∨ SqL K H2 aF (f.map ov) := hF2.sqs.symm
    have hla : ((a.map ov).length : Int) = (a.length : Int) := by rw [List.length_map]
    walk_at "s"
    walk_at "new"
    rename_i pt nt H3 s3 e3
    rw [show f.map ov ++ (a.map ov ++ []) = (f ++ a).map ov by rw [List.append_nil, List.map_append]] at e3
    have hF3 : SqL K H3 aF (f.map ov) ∨ SqT K H3 aF (f.map ov) := (s3.sqh hF2).sqs
    walk_at "s"
    rw [hla, show (f.map ov).length = f.length from List.length_map ..]
    refine ⟨pt, f ++ a, f.length, t, _, rfl, e3, t0, by rw [List.length_append]; omega, fun H4 b s4 hb => ?_⟩
    have hlen : (f ++ a).length = f.length + a.length := List.length_append
    have b0 := hb.le
    have e4 := s4 _ _ e3
    walk_at "s"
    have s04 : Same H0 H4 := s0.trans (s1.trans (s2.trans (s3.trans s4)))
    have hp4 : H4 p = some (.ins C dx []) := s4 _ _ (s3 _ _ (s2 _ _ (s1 _ _ hp)))
    walk_at "new"
    rename_i p5 n5 H5 s5 e5
    rw [cut_to (by rw [List.length_map]; omega), ← List.map_take] at e5
    walk_at "s"
    walk_at "new"
    rename_i p6 n6 H6 s6 e6
    have hp6 : H6 p = some (.ins C dx []) := s6 _ _ (s5 _ _ hp4)
    have d6 : p ≠ p6 := ne_of_none (s5 _ _ hp4) n6
    refine ⟨_, rfl, p, C, dx, [], rfl, hp6, R.cl, R.nF, (by show 0 < 1000; decide), ?_⟩
    generalize hq : upd _ p _ = H7
    obtain ⟨e7, o7⟩ := upd_facts hq
    clear hq
    have dt : pt ≠ p := fun q => by
      rw [q] at e4
      rw [e4] at hp4
      cases hp4
    have e7t : H7 pt = some (.lst ((f ++ a).map ov)) := (o7 _ dt).trans (s6 _ _ (s5 _ _ e4))
    have e7p6 : H7 p6 = some (.tup (((f ++ a).take b).map ov)) := (o7 _ d6.symm).trans e6
    walk_at "s"
    rw [show (b : Int) + (t : Int) = ((b + t : Nat) : Int) by omega]
    walk_at "s"
    walk_at "new"
    rename_i p8 n8 H8 s8 e8
    rw [cut_mid (by rw [List.length_map]; omega) (by omega), Nat.add_sub_cancel_left, ← List.map_drop, ← List.map_take] at e8
    walk_at "s"
    walk_at "new"
    rename_i p9 n9 H9 s9 e9
    have hp9 := s9 _ _ (s8 _ _ e7)
    have d9 : p ≠ p9 := ne_of_none (s8 _ _ e7) n9
    have e9p6 := s9 _ _ (s8 _ _ e7p6)
    refine ⟨_, rfl, p, C, dx, _, rfl, hp9, R.cl, R.nA, (by show 1 < 1000; decide), ?_⟩
    generalize hq : upd _ p _ = H10
    obtain ⟨e10, o10⟩ := upd_facts hq
    clear hq
    refine ⟨_, rfl, _, rfl, p, C, dx, _, rfl, e10, R.cl, R.nM, (by show 2 < 1000; decide), ?_⟩
    generalize hq : upd _ p _ = H11
    obtain ⟨e11, o11⟩ := upd_facts hq
    clear hq
    have np : ∀ c o, H0 c = some o → c ≠ p := fun c o e => ne_of_none e hp0
    refine k H11 ((f ++ a).take b) (((f ++ a).drop b).take t) _ (fun c o e => ?_) ⟨dx, p6, p9, e11, ?_, ?_⟩ ⟨t, b, ht, hb, rfl, rfl, rfl⟩
    · rw [o11 _ (np _ _ e), o10 _ (np _ _ e)]
      refine s9 _ _ (s8 _ _ ?_)
      rw [o7 _ (np _ _ e)]
      exact s6 _ _ (s5 _ _ (s04 _ _ e))
    · rw [o11 _ d6.symm, o10 _ d6.symm]
      exact e9p6
    · rw [o11 _ d9.symm, o10 _ d9.symm]
      exact e9
end
end My.Rw

namespace My.Rw
open PySem PySem.Spec PyProof.Rows L2
local macro_rules | `(tactic| walk_at "side") => `(tactic| first | (dsimp only; omega) | exact ⟨by omega, by omega⟩ | exact Or.inl ⟨by omega, by omega⟩ | exact Or.inr ⟨by omega, by omega⟩ | decide)
local macro_rules | `(tactic| walk_at "sq") => `(tactic| first | assumption | exact SqL.of (by assumption) | exact SqT.of (by assumption) | (refine L2.Same.seq (by assumption) ?_; walk_at "sq") | (refine L2.Same.seqT (by assumption) ?_; walk_at "sq") | exact Or.inl (by walk_at "sq") | exact Or.inr (by walk_at "sq"))
local macro_rules | `(tactic| walk_at "1") => `(tactic| first
  | refine ⟨_, rfl, iteT ?_⟩
  | refine ⟨_, rfl, iteF ?_⟩
  | refine ⟨_, rfl, ?_⟩
  | refine ⟨_, _, rfl, rfl, (by walk_at "side"), ?_⟩
  | refine ⟨_, _, rfl, rfl, ?_⟩
  | refine ⟨_, _, _, _, true, rfl, .ty _, .base (.int _), kit_ty (a := "int") (by decide +kernel), ?_⟩
  | refine ⟨_, _, _, _, false, rfl, .ty _, .base (.int _), kit_ty (a := "int") (by decide +kernel), ?_⟩
  | refine ⟨_, _, rfl, (by walk_at "sq"), ?_⟩
  | refine ⟨_, _, _, _, rfl, rfl, (by walk_at "sq"), (by first | rfl | assumption), ?_⟩
  | refine Or.inl ⟨_, _, _, _, rfl, rfl, (by walk_at "sq"), (by first | rfl | assumption), ?_⟩
  | refine Or.inr (Or.inl ⟨_, _, _, _, rfl, rfl, (by walk_at "sq"), (by first | rfl | assumption), ?_⟩)
  | refine ⟨_, _, rfl, Or.inl ⟨(by walk_at "sq"), ?_⟩⟩
  | refine ⟨rfl, ?_⟩
  | refine iteT ?_
  | refine iteF ?_
  | refine ⟨_, _, _, _, _, rfl, (by assumption), (by assumption), (by assumption), (by assumption), ?_⟩
  | refine Or.inl ⟨_, rfl, ?_⟩
  | refine ⟨_, _, rfl, (by walk_at "side"), ?_⟩
  | refine ⟨_, _, rfl, ?_⟩)
local macro_rules | `(tactic| walk_at "fld") => `(tactic| skip)
local macro_rules | `(tactic| walk_at "s") => `(tactic| repeat walk_at "1")
local macro_rules | `(tactic| walk_at "size") => `(tactic| first | exact Nat.le_of_ble_eq_true rfl | (simp only [List.length_map, List.length_append, List.length_cons, List.length_nil]; omega))
local macro_rules | `(tactic| walk_at "new") => `(tactic| (first | refine ⟨(by walk_at "size"), fun p hp => ?_⟩ | refine fun p hp => ?_); (generalize hq : upd _ p _ = H1); (obtain ⟨s, e⟩ := new_facts hp hq); clear hq)

theorem lk_first (pf pa : Addr) (m : Int) : (rowF pf pa m).lookup ("first" : Str) = some (.ref pf) := rfl
theorem lk_again (pf pa : Addr) (m : Int) : (rowF pf pa m).lookup ("again" : Str) = some (.ref pa) := rfl
theorem lk_more (pf pa : Addr) (m : Int) : (rowF pf pa m).lookup ("more" : Str) = some (.int m) := rfl
/-- what is asked of a row's parts -/
structure Parts (f a : List (Option Int)) (m : Int) : Prop where
  ne : a ≠ []
  lf : f.length < 500
  la : a.length < 500
  m0 : 0 ≤ m
  m1 : m < 2 ^ 30
def gt (xs : List (Option Int)) (i : Nat) : Option Int := (xs[i]?).join
/-- the n-th time -/
def tmR (f a : List (Option Int)) (m : Int) (n : Nat) : Option Int :=
  if n < f.length then gt f n else later1 (((n - f.length) / a.length : Nat) * m) (gt a ((n - f.length) % a.length))
theorem gt_of {xs : List (Option Int)} {i : Nat} (h : i < xs.length) : (xs.map ov)[i]? = some (ov (gt xs i)) := by
  rw [List.getElem?_map]
  unfold gt
  rw [List.getElem?_eq_getElem h]
  rfl
section
variable {P : Program} {w : World} {K : PySem.W.Frag} {mg : Str → Option Value} {base : Heap} {C : Addr}
abbrev s_is_empty : Stmt := topS 29
theorem sc_is_empty : FnScope ["row"] ["row"] (defScope s_is_empty) := ⟨rfl, rfl, rfl, by decide +kernel, rfl, by decide +kernel, by decide +kernel⟩
def spIsEmpty (C : Addr) : Sp := fun vs H Q _ => ∃ (p : Addr) (f a : List (Option Int)) (m : Int), vs = [.ref p] ∧ RowAt C H p f a m ∧ a ≠ [] ∧ Q (.bl (gt a 0).isNone) H
theorem ok_is_empty (D : Df K mg "is_empty" s_is_empty ["row"]) (R : RowCls K mg C) : Own P w K mg base "is_empty" 1 ["row"] (spIsEmpty C) := by
  refine D.own sc_is_empty (fun vs H Q E h => ?_) (fun fa cdv A outer s H vs Q E hr h => ?_)
  · obtain ⟨_, _, _, _, rfl, _⟩ := h
    rfl
  · obtain ⟨p, f, a, m, rfl, ⟨dx, pf, pa, h1, h2, h3⟩, ne, k⟩ := h
    have cl := R.cl
    have nA := R.nA
    have hl := lk_again pf pa m
    have h0 : atI (a.map ov) 0 = some (ov (gt a 0)) := atI_nat (j := 0) (gt_of (List.length_pos_iff.mpr ne))
    refine ⟨_, (pss_one (ps_ret (pe_cmpR op_isN (pe_ix ix_tup (pe_fld (pv 0) rfl) pe_int (fun _ _ => rfl)) pe_non (nomark _)))), ?_⟩
    walk_at "s"
    rw [ov_non]
    exact k
abbrev s_in_lowest_terms : Stmt := topS 13
theorem sc_in_lowest_terms : FnScope ["top", "bottom", "shared"] ["top", "bottom"] (defScope s_in_lowest_terms) := ⟨rfl, rfl, rfl, by decide +kernel, rfl, by decide +kernel, by decide +kernel⟩
/-- the value of a fraction -/
def lowN (i j : Int) : Int := i / (Nat.gcd i.natAbs j.natAbs : Nat)
def lowD (i j : Int) : Int := j / (Nat.gcd i.natAbs j.natAbs : Nat)
def spLow : Sp := fun vs H Q _ => ∃ i j : Int, vs = [.int i, .int j] ∧ 0 < j ∧ j < 1073741824 ∧ ∀ H' p, Same H H' → H p = none → H' p = some (.tup [.int (lowN i j), .int (lowD i j)]) → Q (.ref p) H'
theorem ok_low (D : Df K mg "in_lowest_terms" s_in_lowest_terms ["top", "bottom"]) (g : mg "gcd" = some (.builtin "math.gcd")) : Own P w K mg base "in_lowest_terms" 1 ["top", "bottom"] spLow := by
  refine D.own sc_in_lowest_terms (fun vs H Q E h => ?_) (fun fa cdv A outer s H vs Q E hr h => ?_)
  · obtain ⟨_, _, rfl, _⟩ := h
    rfl
  · obtain ⟨i, j, rfl, j0, j1, k⟩ := h
    refine ⟨_, (pss_cons (ps_set (i := 2) sc_in_lowest_terms.nd rfl (Or.inl rfl) (pe_callBfun cr_gcd (by rfl) g (pa_cons (pv 0) (pa_cons (pv 1) pa_nil))))
  (pss_one (ps_ret (pe_tup (pa_cons (pe_op op_fdiv (pv 0) (pv 2)) (pa_cons (pe_op op_fdiv (pv 1) (pv 2)) pa_nil)))))), ?_⟩
    have g0 : 0 < Nat.gcd i.natAbs j.natAbs := Nat.gcd_pos_of_pos_right _ (by omega)
    have g1 : Nat.gcd i.natAbs j.natAbs ≤ j.natAbs := Nat.gcd_le_right _ (by omega)
    walk_at "s"
    walk_at "new"
    rename_i p1 n1 H1 s1 e1
    walk_at "s"
    exact k _ _ s1 n1 e1
abbrev s_Row_rate : Stmt := inClass (topS 16) 2
theorem sc_Row_rate : FnScope ["self"] ["self"] (defScope s_Row_rate) := ⟨rfl, rfl, rfl, by decide +kernel, rfl, by decide +kernel, by decide +kernel⟩
def spRate (C : Addr) : Sp := fun vs H Q _ => ∃ (p : Addr) (f a : List (Option Int)) (m : Int), vs = [.ref p] ∧ RowAt C H p f a m ∧ Parts f a m ∧ ∀ H' q, Same H H' → H q = none → H' q = some (.tup [.int (lowN m a.length), .int (lowD m a.length)]) → Q (.ref q) H'
theorem ok_rate {f1 : Addr} {fd : FuncData} (F : Fun K "rate" "Row.rate" s_Row_rate f1 fd) (R : RowCls K mg C) (T : Txt mg) (o_in_lowest_terms : Own P w K mg base "in_lowest_terms" 1 ["top", "bottom"] spLow) : FnOk P w K mg base CX0 2 f1 fd ["self"] (spRate C) := by
  refine F.ok sc_Row_rate (fun vs H Q E h => ?_) (fun cdv A outer s H vs Q E hr h => ?_)
  · obtain ⟨_, _, _, _, rfl, _⟩ := h
    rfl
  · obtain ⟨p, f, a, m, rfl, ⟨dx, pf, pa, h1, h2, h3⟩, ok, k⟩ := h
    have cl := R.cl
    have nA := R.nA
    have nM := R.nM
    have hl := lk_again pf pa m
    have hl2 := lk_more pf pa m
    have l0 := List.length_pos_iff.mpr ok.ne
    have l1 := ok.la
    refine ⟨_, (pss_one (ps_ret (pe_own o_in_lowest_terms (hr.mono (by decide)) (pa_cons (pe_fld (pv 0) rfl) (pa_cons (pe_callB call_len_seq (by rfl) T.len PySem.boot_len (pa_cons (pe_fld (pv 0) rfl) pa_nil)) pa_nil))))), ?_⟩
    walk_at "s"
    rw [List.length_map]
    exact ⟨by omega, by omega, k⟩
abbrev s_Row_time : Stmt := inClass (topS 16) 3
theorem sc_Row_time : FnScope ["self", "n", "turns", "at", "time"] ["self", "n"] (defScope s_Row_time) := ⟨rfl, rfl, rfl, by decide +kernel, rfl, by decide +kernel, by decide +kernel⟩
def spTime (C : Addr) : Sp := fun vs H Q _ => ∃ (p : Addr) (f a : List (Option Int)) (m : Int) (n : Nat), vs = [.ref p, .int n] ∧ RowAt C H p f a m ∧ Parts f a m ∧ ∀ H', Same H H' → Q (ov (tmR f a m n)) H'
theorem ok_time {f1 : Addr} {fd : FuncData} (F : Fun K "time" "Row.time" s_Row_time f1 fd) (R : RowCls K mg C) (T : Txt mg) : FnOk P w K mg base CX0 1 f1 fd ["self", "n"] (spTime C) := by
  refine F.ok sc_Row_time (fun vs H Q E h => ?_) (fun cdv A outer s H vs Q E hr h => ?_)
  · obtain ⟨_, _, _, _, _, rfl, _⟩ := h
    rfl
  · obtain ⟨p, f, a, m, n, rfl, ⟨dx, pf, pa, h1, h2, h3⟩, ok, k⟩ := h
    have cl := R.cl
    have nF := R.nF
    have nA := R.nA
    have nM := R.nM
    have hl := lk_again pf pa m
    have hl2 := lk_more pf pa m
    have hl3 := lk_first pf pa m
    have l0 := List.length_pos_iff.mpr ok.ne
    have l1 := ok.la
    have m0 := ok.m0
    have m1 := ok.m1
    refine ⟨_, (pss_cons (ps_if (pt_cmpR op_lt (pv 1) (pe_callB call_len_seq (by rfl) T.len PySem.boot_len (pa_cons (pe_fld (pv 0) rfl) pa_nil)) (nomark _))
    (pss_one (ps_ret (pe_ix ix_tup (pe_fld (pv 0) rfl) (pv 1) (fun _ _ => rfl))))
    pss_nil)
  (pss_cons (ps_asg (pe_callB call_divmod (by rfl) T.divmod (by decide +kernel) (pa_cons (pe_op op_sub (pv 1) (pe_callB call_len_seq (by rfl) T.len PySem.boot_len (pa_cons (pe_fld (pv 0) rfl) pa_nil))) (pa_cons (pe_callB call_len_seq (by rfl) T.len PySem.boot_len (pa_cons (pe_fld (pv 0) rfl) pa_nil)) pa_nil))) (pg_tup (by rfl) (pgs_cons (pg_name (i := 2) sc_Row_time.nd rfl (Or.inl rfl)) (pgs_cons (pg_name (i := 3) sc_Row_time.nd rfl (Or.inl rfl)) pgs_nil))))
  (pss_cons (ps_set (i := 4) sc_Row_time.nd rfl (Or.inl rfl) (pe_ix ix_tup (pe_fld (pv 0) rfl) (pv 3) (fun _ _ => rfl)))
  (pss_one (ps_ret (pe_ifExp (pt_cmpR op_isN (pv 4) pe_non (nomark _)) pe_non (pe_op op_add (pv 4) (pe_op op_mul (pv 2) (pe_fld (pv 0) rfl))))))))), ?_⟩
    walk_at "s"
    rw [List.length_map]
    refine ite2 (fun c => ?_) (fun c => ?_)
    · have c' : n < f.length := by
        have := of_decide_eq_true c
        omega
      have h0 : atI (f.map ov) (n : Int) = some (ov (gt f n)) := atI_nat (gt_of c')
      walk_at "s"
      have e : tmR f a m n = gt f n := if_pos c'
      rw [← e]
      exact k _ (Same.refl _)
    · have c' : ¬ n < f.length := fun q => c (decide_eq_true (by omega))
      walk_at "s"
      rw [List.length_map, List.length_map]
      refine ⟨⟨by omega, by omega⟩, ?_⟩
      walk_at "new"
      rename_i p1 n1 H1 s1 e1
      walk_at "s"
      have h1' := s1 _ _ h1
      have h2' := s1 _ _ h2
      have h3' := s1 _ _ h3
      have en : (n : Int) - (f.length : Int) = ((n - f.length : Nat) : Int) := by omega
      have em : ((n : Int) - (f.length : Int)) % (a.length : Int) = (((n - f.length) % a.length : Nat) : Int) := by rw [en]; rfl
      have ed : ((n : Int) - (f.length : Int)) / (a.length : Int) = (((n - f.length) / a.length : Nat) : Int) := by rw [en]; rfl
      have lt : (n - f.length) % a.length < a.length := Nat.mod_lt _ l0
      walk_at "s"
      refine ⟨_, _, _, _, rfl, rfl, SqT.of h3', at_of em (gt_of lt), ?_⟩
      walk_at "s"
      have et : tmR f a m n = later1 (((n - f.length) / a.length : Nat) * m) (gt a ((n - f.length) % a.length)) := if_neg c'
      have k' := k _ s1
      rw [et] at k'
      cases hg : gt a ((n - f.length) % a.length) with
      | none =>
        rw [hg] at k'
        walk_at "s"
        exact k'
      | some x =>
        rw [hg] at k'
        walk_at "s"
        show Q (.int (x + (((n : Int) - (f.length : Int)) / (a.length : Int)) * m)) H1
        rw [ed]
        exact k'
end
end My.Rw

namespace My.Rw
open PySem PySem.Spec PyProof.Rows L2
local macro_rules | `(tactic| walk_at "side") => `(tactic| first | (dsimp only; omega) | exact ⟨by omega, by omega⟩ | exact Or.inl ⟨by omega, by omega⟩ | exact Or.inr ⟨by omega, by omega⟩ | decide)
local macro_rules | `(tactic| walk_at "sq") => `(tactic| first | assumption | exact SqL.of (by assumption) | exact SqT.of (by assumption) | (refine L2.Same.seq (by assumption) ?_; walk_at "sq") | (refine L2.Same.seqT (by assumption) ?_; walk_at "sq") | exact Or.inl (by walk_at "sq") | exact Or.inr (by walk_at "sq"))
local macro_rules | `(tactic| walk_at "1") => `(tactic| first
  | refine ⟨_, rfl, iteT ?_⟩
  | refine ⟨_, rfl, iteF ?_⟩
  | refine ⟨_, rfl, ?_⟩
  | refine ⟨_, _, rfl, rfl, (by walk_at "side"), ?_⟩
  | refine ⟨_, _, rfl, rfl, ?_⟩
  | refine ⟨_, _, _, _, true, rfl, .ty _, .base (.int _), kit_ty (a := "int") (by decide +kernel), ?_⟩
  | refine ⟨_, _, _, _, false, rfl, .ty _, .base (.int _), kit_ty (a := "int") (by decide +kernel), ?_⟩
  | refine ⟨_, _, rfl, (by walk_at "sq"), ?_⟩
  | refine ⟨_, _, _, _, rfl, rfl, (by walk_at "sq"), (by first | rfl | assumption), ?_⟩
  | refine Or.inl ⟨_, _, _, _, rfl, rfl, (by walk_at "sq"), (by first | rfl | assumption), ?_⟩
  | refine Or.inr (Or.inl ⟨_, _, _, _, rfl, rfl, (by walk_at "sq"), (by first | rfl | assumption), ?_⟩)
  | refine ⟨_, _, rfl, Or.inl ⟨(by walk_at "sq"), ?_⟩⟩
  | refine ⟨rfl, ?_⟩
  | refine iteT ?_
  | refine iteF ?_
  | refine ⟨_, _, _, _, _, rfl, (by assumption), (by assumption), (by assumption), (by assumption), ?_⟩
  | refine Or.inl ⟨_, rfl, ?_⟩
  | refine ⟨_, _, rfl, (by walk_at "side"), ?_⟩
  | refine ⟨_, _, rfl, ?_⟩)
local macro_rules | `(tactic| walk_at "fld") => `(tactic| skip)
local macro_rules | `(tactic| walk_at "s") => `(tactic| repeat walk_at "1")
local macro_rules | `(tactic| walk_at "size") => `(tactic| first | exact Nat.le_of_ble_eq_true rfl | (simp only [List.length_map, List.length_append, List.length_cons, List.length_nil]; omega))
local macro_rules | `(tactic| walk_at "new") => `(tactic| (first | refine ⟨(by walk_at "size"), fun p hp => ?_⟩ | refine fun p hp => ?_); (generalize hq : upd _ p _ = H1); (obtain ⟨s, e⟩ := new_facts hp hq); clear hq)

def upTo (t : Int) : Option Int → Bool
  | none => true
  | some x => decide (x ≤ t)
/-- how many goings are at a time at most, or nothing -/
def cntR (f a : List (Option Int)) (m t : Int) : Option Int :=
  match gt a 0 with
  | none => none
  | some lo => if m = 0 ∧ lo ≤ t then none
    else if t < lo then some ((f.filter (upTo t)).length : Int)
    else some ((f.length : Int) + (t - lo) / m * (a.length : Int) + ((a.filter (upTo (lo + (t - lo) % m))).length : Int))
theorem take_succ_filter {xs : List (Option Int)} {i : Nat} {x : Option Int} (p : Option Int → Bool) (h : xs[i]? = some x) : (xs.take (i + 1)).filter p = if p x = true then (xs.take i).filter p ++ [x] else (xs.take i).filter p := by
  rw [List.take_add_one, h, List.filter_append]
  by_cases e : p x = true
  · rw [if_pos e]
    congr 1
    simp [e]
  · rw [if_neg e]
    simp [e]
section
variable {P : Program} {w : World} {K : PySem.W.Frag} {mg : Str → Option Value} {base : Heap} {C : Addr}
abbrev s_Row_count : Stmt := inClass (topS 16) 4
theorem sc_Row_count : FnScope ["self", "time", "turns", "rest", "begun", "thing"] ["self", "time"] (defScope s_Row_count) := ⟨rfl, rfl, rfl, by decide +kernel, rfl, by decide +kernel, by decide +kernel⟩
def spCount (C : Addr) : Sp := fun vs H Q _ => ∃ (p : Addr) (f a : List (Option Int)) (m t : Int), vs = [.ref p, .int t] ∧ RowAt C H p f a m ∧ Parts f a m ∧ (gt a 0 ≠ none → ∀ x ∈ a, x ≠ none) ∧ ∀ H', Same H H' → Q (ov (cntR f a m t)) H'
theorem ok_count {f1 : Addr} {fd : FuncData} (F : Fun K "count" "Row.count" s_Row_count f1 fd) (R : RowCls K mg C) (T : Txt mg) (o_is_empty : Own P w K mg base "is_empty" 1 ["row"] (spIsEmpty C)) : FnOk P w K mg base CX0 2 f1 fd ["self", "time"] (spCount C) := by
  refine F.ok sc_Row_count (fun vs H Q E h => ?_) (fun cdv A outer s H vs Q E hr h => ?_)
  · obtain ⟨_, _, _, _, _, rfl, _⟩ := h
    rfl
  · obtain ⟨p, f, a, m, t, rfl, hR, ok, hall, k⟩ := h
    obtain ⟨dx, pf, pa, h1, h2, h3⟩ := id hR
    have h1000 : 1000 < sizeLine := small1000 (Nat.le_refl _)
    have cl := R.cl
    have nF := R.nF
    have nA := R.nA
    have nM := R.nM
    have hl := lk_again pf pa m
    have hl2 := lk_more pf pa m
    have hl3 := lk_first pf pa m
    have l0 := List.length_pos_iff.mpr ok.ne
    have l1 := ok.la
    have l2 := ok.lf
    have m0 := ok.m0
    have m1 := ok.m1
    have h0 : atI (a.map ov) 0 = some (ov (gt a 0)) := atI_nat (j := 0) (gt_of l0)
    refine ⟨_, (C8.pss_cut (ps_if (PW.pt (pw_or (pt_val (pe_own o_is_empty (hr.mono (by decide)) (pa_cons (pv 0) pa_nil))) (pw_or1 (PW.pt (pw_and (pt_cmpR op_eq (pe_fld (pv 0) rfl) pe_int (nomark _)) (pw_and1 (pt_cmpR op_ge (pv 1) (pe_ix ix_tup (pe_fld (pv 0) rfl) pe_int (fun _ _ => rfl)) (nomark _))))))))
    (pss_one (ps_ret pe_non))
    pss_nil)
  (pss_cons (ps_if (pt_cmpR op_lt (pv 1) (pe_ix ix_tup (pe_fld (pv 0) rfl) pe_int (fun _ _ => rfl)) (nomark _))
    (pss_one (ps_ret (pe_callB call_len_seq (by rfl) T.len PySem.boot_len (pa_cons (pe_lc (own := [("thing", 5)]) (g := gName 5) (tt := tOr (tTest (tOp _ (tVar 5) (tC .non))) (tTest (tOp _ (tVar 5) (tVar 1)))) rfl sc_Row_count.nd (pi_tup (pe_fld (pv 0) rfl)) (blkOk_by (own := [("thing", 5)]) (N := ["self", "time", "turns", "rest", "begun", "thing"]) (sc := defScope s_Row_count) (by decide +kernel)) (fun _ _ _ _ _ => (pg_name (i := 5) sc_Row_count.nd rfl (Or.inl rfl))) (fun _ _ _ _ _ => (pts_one (PW.pt (pw_or (pt_cmpR op_isN (pv 5) pe_non (nomark _)) (pw_or1 (pt_cmpR op_le (pv 5) (pv 1) (nomark _))))))) (fun _ _ _ _ _ => (pv 5))) pa_nil))))
    pss_nil)
  (pss_cons (ps_asg (pe_callB call_divmod (by rfl) T.divmod (by decide +kernel) (pa_cons (pe_op op_sub (pv 1) (pe_ix ix_tup (pe_fld (pv 0) rfl) pe_int (fun _ _ => rfl))) (pa_cons (pe_fld (pv 0) rfl) pa_nil))) (pg_tup (by rfl) (pgs_cons (pg_name (i := 2) sc_Row_count.nd rfl (Or.inl rfl)) (pgs_cons (pg_name (i := 3) sc_Row_count.nd rfl (Or.inr rfl)) pgs_nil))))
  (pss_cons (ps_set (i := 4) sc_Row_count.nd rfl (Or.inl rfl) (pe_callB call_len_seq (by rfl) T.len PySem.boot_len (pa_cons (pe_lc (own := [("thing", 5)]) (g := gName 5) (tt := tTest (tOp _ (tVar 5) (tOp _ (tOp (rIxT K) (tFld K (tVar 0) "again") (tC (.int 0))) (tVar 3)))) rfl sc_Row_count.nd (pi_tup (pe_fld (pv 0) rfl)) (blkOk_by (own := [("thing", 5)]) (N := ["self", "time", "turns", "rest", "begun", "thing"]) (sc := defScope s_Row_count) (by decide +kernel)) (fun _ _ _ _ _ => (pg_name (i := 5) sc_Row_count.nd rfl (Or.inl rfl))) (fun _ _ _ _ _ => (pts_one (pt_cmpR op_le (pv 5) (pe_op op_add (pe_ix ix_tup (pe_fld (pv 0) rfl) pe_int (fun _ _ => rfl)) (pv 3)) (nomark _)))) (fun _ _ _ _ _ => (pv 5))) pa_nil)))
  (pss_one (ps_ret (pe_op op_add (pe_op op_add (pe_callB call_len_seq (by rfl) T.len PySem.boot_len (pa_cons (pe_fld (pv 0) rfl) pa_nil)) (pe_op op_mul (pv 2) (pe_callB call_len_seq (by rfl) T.len PySem.boot_len (pa_cons (pe_fld (pv 0) rfl) pa_nil)))) (pv 4)))))))), ?_⟩
    refine ⟨fun σ' H' => σ' = [some (.ref p), some (.int t), none, none, none, none] ∧ H' = H ∧ ∃ lo, gt a 0 = some lo ∧ ¬ (m = 0 ∧ lo ≤ t), ?_, ?_⟩
    · walk_at "s"
      refine ⟨p, f, a, m, rfl, hR, ok.ne, ?_⟩
      cases hlo : gt a 0 with
      | none =>
        have e : cntR f a m t = none := by unfold cntR; rw [hlo]
        have k' := k _ (Same.refl _)
        rw [e] at k'
        walk_at "s"
        exact k'
      | some lo =>
        rw [hlo] at h0
        walk_at "s"
        refine ite2 (fun c1 => ?_) (fun c1 => ?_)
        · have c1' : m = 0 := V.int.inj (of_decide_eq_true c1)
          walk_at "s"
          refine ite2 (fun c2 => ?_) (fun c2 => ?_)
          · have c2' : lo ≤ t := of_decide_eq_true c2
            have e : cntR f a m t = none := by unfold cntR; rw [hlo]; exact if_pos ⟨c1', c2'⟩
            have k' := k _ (Same.refl _)
            rw [e] at k'
            walk_at "s"
            exact k'
          · walk_at "s"
            exact fun q => c2 (decide_eq_true q.2)
        · walk_at "s"
          exact fun q => c1 (decide_eq_true (congrArg V.int q.1))
    · rintro σ' H' ⟨rfl, rfl, lo, hlo, hno⟩
      rw [hlo] at h0
      have hal := hall (by rw [hlo]; exact fun z => nomatch z)
      walk_at "s"
      refine ite2 (fun c => ?_) (fun c => ?_)
      · have c' : t < lo := of_decide_eq_true c
        have e : cntR f a m t = some ((f.filter (upTo t)).length : Int) := by
          unfold cntR
          rw [hlo]
          exact (if_neg hno).trans (if_pos c')
        rw [e] at k
        walk_at "s"
        refine ⟨⟨_, SqT.of h2⟩, fun L nL => lc_seq (seqIt_t (SqT.of h2)) (fun i H'' => Same H' H'' ∧ H'' L = some (.lst (((f.take i).filter (upTo t)).map ov))) ⟨same_upd nL, upd_same⟩ (fun i H'' q => q.1) ?_ ?_⟩
        · rintro i x H'' hi ⟨s1, e1⟩
          obtain ⟨y, hy, rfl⟩ := get_map hi
          have hz : (((f.take i).filter (upTo t)).map ov).length < sizeLine := by
            rw [List.length_map]
            have := List.length_filter_le (upTo t) (f.take i)
            rw [List.length_take] at this
            omega
          have fin1 : upTo t y = true → Same H' (upd H'' L (.lst ((((f.take i).filter (upTo t)).map ov) ++ [ov y]))) ∧ (upd H'' L (.lst ((((f.take i).filter (upTo t)).map ov) ++ [ov y]))) L = some (.lst (((f.take (i + 1)).filter (upTo t)).map ov)) := fun h => by
            refine ⟨s1.upd1 nL, ?_⟩
            rw [upd_same, take_succ_filter _ hy, if_pos h, List.map_append]
            rfl
          have fin2 : upTo t y = false → Same H' H'' ∧ H'' L = some (.lst (((f.take (i + 1)).filter (upTo t)).map ov)) := fun h => by
            refine ⟨s1, ?_⟩
            rw [take_succ_filter _ hy, h]
            exact e1
          cases y with
          | none =>
            walk_at "s"
            exact ⟨_, e1, hz, fin1 rfl⟩
          | some y =>
            walk_at "s"
            refine ite2 (fun c3 => ?_) (fun c3 => ?_)
            · walk_at "s"
              exact ⟨_, e1, hz, fin1 c3⟩
            · walk_at "s"
              exact fin2 (Bool.eq_false_iff.mpr c3)
        · rintro H'' ⟨s1, e1⟩
          rw [show (f.map ov).length = f.length by simp, List.take_length] at e1
          walk_at "s"
          have k' := k _ s1
          rw [show ((f.filter (upTo t)).length : Int) = (((f.filter (upTo t)).map ov).length : Int) by rw [List.length_map]] at k'
          exact k'
      · have c' : ¬ t < lo := fun q => c (decide_eq_true q)
        have hm : 0 < m := by omega
        walk_at "s"
        walk_at "new"
        rename_i p1 n1 H1 s1 e1
        have h1' := s1 _ _ h1
        have h2' := s1 _ _ h2
        have h3' := s1 _ _ h3
        have h1000' := h1000
        walk_at "s"
        refine ⟨⟨_, SqT.of h3'⟩, fun L nL => lc_seq (seqIt_t (SqT.of h3')) (fun i H'' => Same H1 H'' ∧ H'' L = some (.lst (((a.take i).filter (upTo (lo + (t - lo) % m))).map ov))) ⟨same_upd nL, upd_same⟩ (fun i H'' q => q.1) ?_ ?_⟩
        · rintro i x H'' hi ⟨s2, e2⟩
          obtain ⟨y, hy, rfl⟩ := get_map hi
          have hz : (((a.take i).filter (upTo (lo + (t - lo) % m))).map ov).length < sizeLine := by
            rw [List.length_map]
            have := List.length_filter_le (upTo (lo + (t - lo) % m)) (a.take i)
            rw [List.length_take] at this
            omega
          have fin1 : upTo (lo + (t - lo) % m) y = true → Same H1 (upd H'' L (.lst ((((a.take i).filter (upTo (lo + (t - lo) % m))).map ov) ++ [ov y]))) ∧ (upd H'' L (.lst ((((a.take i).filter (upTo (lo + (t - lo) % m))).map ov) ++ [ov y]))) L = some (.lst (((a.take (i + 1)).filter (upTo (lo + (t - lo) % m))).map ov)) := fun h => by
            refine ⟨s2.upd1 nL, ?_⟩
            rw [upd_same, take_succ_filter _ hy, if_pos h, List.map_append]
            rfl
          have fin2 : upTo (lo + (t - lo) % m) y = false → Same H1 H'' ∧ H'' L = some (.lst (((a.take (i + 1)).filter (upTo (lo + (t - lo) % m))).map ov)) := fun h => by
            refine ⟨s2, ?_⟩
            rw [take_succ_filter _ hy, h]
            exact e2
          have h1'' := s2 _ _ h1'
          have h3'' := s2 _ _ h3'
          cases y with
          | none => exact absurd rfl (hal none (List.mem_of_getElem? hy))
          | some y =>
            walk_at "s"
            refine ite2 (fun c3 => ?_) (fun c3 => ?_)
            · walk_at "s"
              exact ⟨_, e2, hz, fin1 c3⟩
            · walk_at "s"
              exact fin2 (Bool.eq_false_iff.mpr c3)
        · rintro H'' ⟨s2, e2⟩
          have h1'' := s2 _ _ h1'
          have h2'' := s2 _ _ h2'
          have h3'' := s2 _ _ h3'
          walk_at "s"
          have ela : (a.map ov).length = a.length := List.length_map ..
          refine ⟨Or.inr ⟨by omega, by omega⟩, ?_⟩
          walk_at "s"
          have e : cntR f a m t = some ((f.length : Int) + (t - lo) / m * (a.length : Int) + ((a.filter (upTo (lo + (t - lo) % m))).length : Int)) := by
            unfold cntR
            rw [hlo]
            exact (if_neg hno).trans (if_neg c')
          have k' := k _ (s1.trans s2)
          rw [e] at k'
          show Q (.int (((f.map ov).length : Int) + (t - lo) / m * ((a.map ov).length : Int) + ((((a.take (a.map ov).length).filter (upTo (lo + (t - lo) % m))).map ov).length : Int))) H''
          rw [ela, List.take_length, List.length_map, List.length_map]
          exact k'
end
end My.Rw

namespace MyN
open PySem PySem.Spec PyProof.Rows
section
variable {prog : Program} {w : World} {A : Around} {E : Value → Shared → Prop} {s : Shared} {K : PySem.W.Frag} {x C L f : Addr} {h₀ : Heap} {m : Str → Option Value} {ox : Obj} {od : Option Obj} {b tb : Value}
open Builtin in
theorem ne_body {Q : Fin → Shared → Prop} (hu : A.units < cLine) (X : K.In s.heap) (I : PySem.W.InstAt s.heap x ox C od) (hs : PySem.W.findIn K (.ref C) "__eq__" = some (some (.ref f))) (hf : PySem.W.isFn K (.ref f) = true)
    (h : wpAny (model prog w) A (call (.ref f) [.ref x, b]) (fun v s' => ∃ r, v = .bool r ∧ Q (.done (.ret (.bool (!r)))) s') E s) : wpAny (model prog w) A (Builtin.«object.__ne__» ⟨[.ref x, b], []⟩) Q E s := by
  unfold Builtin.«object.__ne__»
  repeat (first
    | with_reducible refine wpAny_cRoomFor hu ?_
    | (refine wpAny_bind (m := callSpecialIfBound? (.ref x) (Str.ofString "__eq__") [b])
        (PySem.W.ifBound_K X I hs hf (wpAny_mono h (fun r s' hr => by
          obtain ⟨b, rfl, hq⟩ := hr
          repeat (first | exact hq | exact wpAny_pure hq | exact wpAny_truthy_bool hq | (refine wpAny_bind (m := truthy (.bool _)) (wpAny_truthy_bool ?_)) | wp_step)) fun _ _ e => e)))
    | wp_step)
theorem call_objNe {Q : Value → Shared → Prop} (hu : A.in1.units < cLine) (X : K.In s.heap) (I : PySem.W.InstAt s.heap x ox C od) (hm : PySem.W.mroIn K C (.type "object") = some true) (hs : PySem.W.findIn K (.ref C) "__eq__" = some (some (.ref f))) (hf : PySem.W.isFn K (.ref f) = true)
    (h : wpAny (model prog w) A.in1 (call (.ref f) [.ref x, b]) (fun v s' => ∃ r, v = .bool r ∧ Q (.bool (!r)) s') E s) :
    wpAny (model prog w) A (call (.builtin "object.__ne__") [.ref x, b]) Q E s :=
  wpAny_call (codeAny_call_builtin F.cmp_object.ne.plain F.cmpEntry_ne (PySem.W.check_slot F.cmpKind_ne F.cmpSplit_ne (I.type.andThen (PySem.W.looks_mroIn X hm)) (F.cmpArgs_ne _ _) (ne_body hu X I hs hf h)))
theorem ifBound_objNe {M : Model} {args : List Value} {Q : Option Value → Shared → Prop} (X : K.In s.heap) (I : PySem.W.InstAt s.heap x ox C od) (hs : PySem.W.findIn K (.ref C) "__ne__" = some (some (.builtin "object.__ne__")))
    (h : wpAny M A (call (.builtin "object.__ne__") (.ref x :: args)) (fun v => Q (some v)) E s) : wpAny M A (callSpecialIfBound? (.ref x) "__ne__" args) Q E s := by
  simp only [callSpecialIfBound?, bindSpecialIfBound?]
  refine wpAny_holding (wpAny_bind (wpAny_bind (wpAny_bind (I.type.here ((PySem.W.looks_findIn X hs).here ?_)))))
  refine wpAny_bind (wpAny_askSetting (wpAny_ite ?_))
  have fin : wpAny M A (call (.builtin "object.__ne__") ([.ref x] ++ args) >>= fun v => pure (some v)) Q E s := wpAny_bind (wpAny_mono h (fun v s' h' => wpAny_pure h') fun _ _ h' => h')
  split
  · exact wpAny_bind (wpAny_of_eq (F.cmp_object.ne.bind _) (wpAny_pure (by exact fin)))
  · exact wpAny_tryCatch (wpAny_bind (wpAny_of_eq (F.cmp_object.ne.bind _) (wpAny_pure (by exact fin))))
theorem ne_K {Q : Value → Shared → Prop} (hu : A.units < cLine) (hu1 : A.in1.units < cLine) (F : Fr h₀ L s.heap m) (X₀ : K.In h₀) (I : PySem.W.InstAt s.heap x ox C od) (hb : PySem.W.Looks (model prog w) s.heap (typeOf b) tb) (hn : PySem.W.notFirst K C tb = true)
    (hm : PySem.W.mroIn K C (.type "object") = some true) (hne : PySem.W.findIn K (.ref C) "__ne__" = some (some (.builtin "object.__ne__"))) (hs : PySem.W.findIn K (.ref C) "__eq__" = some (some (.ref f))) (hf : PySem.W.isFn K (.ref f) = true)
    (h : wpAny (model prog w) A.in1 (call (.ref f) [.ref x, b]) (fun v s' => ∃ r, v = .bool r ∧ Q (.bool (!r)) s') E s) : wpAny (model prog w) A (richCompare .NotEq (.ref x) b) Q E s := by
  have X := X₀.keeps F.keep
  have one : wpAny (model prog w) A (tryCompare (.ref x) "__ne__" b) (fun r s' => ∃ v, r = some v ∧ Q v s') E s := by
    unfold tryCompare
    refine wpAny_bind (ifBound_objNe X I hne (call_objNe hu1 X I hm hs hf (wpAny_mono h (fun v s' hv => ?_) fun _ _ e => e)))
    obtain ⟨r, rfl, q⟩ := hv
    exact ⟨r, rfl, wpAny_pure ⟨_, rfl, q⟩⟩
  unfold richCompare
  simp only [oneThing_ref]
  refine wpAny_holding (wpAny_bind (wpAny_cRoomFor hu ?_))
  rw [cmpInfo_NotEq]
  dsimp only
  refine wpAny_bind (I.type.here (wpAny_bind (hb.here ?_)))
  split
  · rename_i q
    have e : PySem.W.subIn K tb (.ref C) = some false := by
      rcases Bool.or_eq_true_iff.mp hn with e | e
      · rw [beq_iff_eq.mp e] at q; simp at q
      · exact beq_iff_eq.mp e
    refine wpAny_bind ((PySem.W.looks_subIn X e).here ?_)
    simp only [Bool.false_eq_true, if_false]
    refine wpAny_bind (wpAny_mono one (fun r s' z => ?_) fun _ _ e => e)
    obtain ⟨v, rfl, hq⟩ := z
    exact wpAny_pure hq
  · refine wpAny_bind (wpAny_pure ?_)
    simp only [Bool.false_eq_true, if_false]
    refine wpAny_bind (wpAny_mono one (fun r s' z => ?_) fun _ _ e => e)
    obtain ⟨v, rfl, hq⟩ := z
    exact wpAny_pure hq
end
end MyN
namespace My
open PySem PySem.Spec PyProof.Rows L2
section
variable {X : Cx} {n : Nat} {C f : Addr} {fd : FuncData} {ps : List Str} {sp : Sp} {CX : CXT} {E : XK}
/-- the own == is a def that keeps a promise -/
structure EqOwn (X : Cx) (CX : CXT) (n : Nat) (C : Addr) (sp : Sp) (E : XK) : Prop where
  ex : ∃ f fd ps, FnOk X.prog X.w X.K X.mg X.base CX n f fd ps sp ∧ PySem.W.findIn X.K (.ref C) "__eq__" = some (some (.ref f)) ∧ PySem.W.isFn X.K (.ref f) = true ∧ Binds X.K fd ps []
  ne : PySem.W.findIn X.K (.ref C) "__ne__" = some (some (.builtin "object.__ne__"))
  mro : PySem.W.mroIn X.K C (.type "object") = some true
  hx : Passes CX X E
theorem own_run {A : Around} {Q : VK} {pins : List (Addr × Obj)} {σ : L2.St} {H : Hp} {s : Shared} {us : List Value} {vs : List V} (F : FnOk X.prog X.w X.K X.mg X.base CX n f fd ps sp) (hb : Binds X.K fd ps []) (hx : Passes CX X E) (hr : Room n A)
    (e0 : Env0 X.prog X.w X.K X.mg X.base A X.stack s H) (I : Inv X pins σ H s) (r : Vals vs us) (hsp : sp vs H Q E) : wpAny (model X.prog X.w) A (call (.ref f) us) (EP X pins σ Q) X.xe s := by
  have hl := F.len _ _ _ _ hsp
  refine wpAny_call (codeAny_mono (F.run A X.stack s H ⟨us, []⟩ us vs _ E hr e0 (by
    have := hb s us I.kIn (by rw [List.append_nil, ← r.length, hl])
    simpa using this) r hsp) fun r s' hq => ?_)
  cases r with
  | error e => exact hx pins σ H s e s' I hq
  | ok fl =>
    cases fl with
    | ret w => exact I.after hq
    | next => exact False.elim hq
    | brk => exact False.elim hq
    | cont => exact False.elim hq
/-- x == y, x of a class with its own ==, y anything of a known type -/
def rEqOwn (K : PySem.W.Frag) (C : Addr) (sp : Sp) (E : XK) : R2 := fun x y H Q => ∃ a dx fs t, x = .ref a ∧ H a = some (.ins C dx fs) ∧ TyX K H y t ∧ PySem.W.notFirst K C t = true ∧ sp [x, y] H Q E
def rNeOwn (K : PySem.W.Frag) (C : Addr) (sp : Sp) (E : XK) : R2 := fun x y H Q => ∃ a dx fs t, x = .ref a ∧ H a = some (.ins C dx fs) ∧ TyX K H y t ∧ PySem.W.notFirst K C t = true ∧ sp [x, y] H (fun v H' => ∃ r, v = .bl r ∧ Q (.bl (!r)) H') E
theorem op_eqOwn (O : EqOwn X CX n C sp E) (hr : Room n X.A) : OpR X (compareOp .Eq) (rEqOwn X.K C sp E) := by
  intro pins s σ H x y v u Q I rx ry h
  obtain ⟨f, fd, ps, F, hs, hf, hb⟩ := O.ex
  obtain ⟨a, dx, fs, t, rfl, ha, ty, hn, q⟩ := h
  cases (show v = Value.ref a from rx)
  obtain ⟨mA, J, _⟩ := ins_get I.hok ha
  obtain ⟨od, J, _⟩ := J.look
  obtain ⟨P, Z, p, _⟩ := kit_of I ry ty
  obtain ⟨m, hF⟩ := I.fr
  refine PySem.W.cmp_ofEq (PySem.W.cmp_K (op := .Eq) (tb := t) hr.units0 hF I.ok.mod.kin J (Z.ty _ _ I.kIn p) hn hs hf ?_)
  refine wpAny_mono (own_run (vs := [.ref a, y]) F hb O.hx hr I.env0 I (.cons rfl (.cons ry .nil)) q) (fun w s' z => ?_) fun _ _ x => x
  obtain ⟨z', H', I', rz, qz⟩ := z
  exact SlX.cmpback rz ⟨z', H', I', rz, qz⟩
theorem op_neOwn (O : EqOwn X CX n C sp E) (hr : Room (n + 1) X.A) : OpR X (compareOp .NotEq) (rNeOwn X.K C sp E) := by
  intro pins s σ H x y v u Q I rx ry h
  obtain ⟨f, fd, ps, F, hs, hf, hb⟩ := O.ex
  obtain ⟨a, dx, fs, t, rfl, ha, ty, hn, q⟩ := h
  cases (show v = Value.ref a from rx)
  obtain ⟨mA, J, _⟩ := ins_get I.hok ha
  obtain ⟨od, J, _⟩ := J.look
  obtain ⟨P, Z, p, _⟩ := kit_of I ry ty
  obtain ⟨m, hF⟩ := I.fr
  refine PySem.W.cmp_ofNotEq (MyN.ne_K (tb := t) hr.units0 hr.in1.units0 hF I.ok.mod.kin J (Z.ty _ _ I.kIn p) hn O.mro O.ne hs hf ?_)
  refine wpAny_mono (own_run (vs := [.ref a, y]) F hb O.hx hr.in1 I.env0.in1 I (.cons rfl (.cons ry .nil)) q) (fun w s' z => ?_) fun _ _ x => x
  obtain ⟨z', H', I', rz, r, rfl, qz⟩ := z
  cases (show w = Value.bool r from rz)
  exact ⟨r, rfl, .bl (!r), H', I', rfl, qz⟩
/-- str(x), x of a class with its own __str__ -/
def rStrOwn (C : Addr) (sp : Sp) (E : XK) : List V → Hp → VK → Prop := fun xs H Q => ∃ a dx fs, xs = [.ref a] ∧ H a = some (.ins C dx fs) ∧ sp [.ref a] H (fun v H' => ∃ y, v = .str y ∧ Q v H') E
structure StrOwn (X : Cx) (CX : CXT) (n : Nat) (C : Addr) (sp : Sp) (E : XK) : Prop where
  ex : ∃ f fd ps, FnOk X.prog X.w X.K X.mg X.base CX n f fd ps sp ∧ PySem.W.findIn X.K (.ref C) "__str__" = some (some (.ref f)) ∧ PySem.W.isFn X.K (.ref f) = true ∧ Binds X.K fd ps []
  hx : Passes CX X E
theorem call_strOwn (O : StrOwn X CX n C sp E) (hr : Room (n + 2) X.A) : CallR X (.type "str") (rStrOwn C sp E) := by
  intro pins s σ H xs us Q I r h
  obtain ⟨f, fd, ps, F, hs, hf, hb⟩ := O.ex
  obtain ⟨a, dx, fs, rfl, ha, q⟩ := h
  obtain ⟨u, rfl, ru⟩ := r.one
  cases (show u = Value.ref a from ru)
  obtain ⟨mA, J, _⟩ := ins_get I.hok ha
  obtain ⟨od, J, _⟩ := J.look
  have hr2 : Room n X.A.in1.in1 := (show Room (n + 1) X.A.in1 from Room.in1 hr).in1
  refine PySem.W.kso_call hr2.units0 I.kIn J hs hf (wpAny_mono (own_run (vs := [.ref a]) F hb O.hx hr2 I.env0.in1.in1 I (.cons rfl .nil) q) (fun w s' z => ?_) fun _ _ x => x)
  obtain ⟨z', H', I', rz, y, rfl, qz⟩ := z
  obtain ⟨t, e⟩ := (show ∃ t, w = Value.str y t from rz)
  cases e
  exact ⟨.str y, H', I', ⟨t, rfl⟩, qz⟩
end
end My

namespace My.Rw
open PySem PySem.Spec PyProof.Rows L2
local macro_rules | `(tactic| walk_at "side") => `(tactic| first | (dsimp only; omega) | exact ⟨by omega, by omega⟩ | exact Or.inl ⟨by omega, by omega⟩ | exact Or.inr ⟨by omega, by omega⟩ | decide)
local macro_rules | `(tactic| walk_at "sq") => `(tactic| first | assumption | exact SqL.of (by assumption) | exact SqT.of (by assumption) | (refine L2.Same.seq (by assumption) ?_; walk_at "sq") | (refine L2.Same.seqT (by assumption) ?_; walk_at "sq") | exact Or.inl (by walk_at "sq") | exact Or.inr (by walk_at "sq"))
local macro_rules | `(tactic| walk_at "1") => `(tactic| first
  | refine ⟨_, rfl, iteT ?_⟩
  | refine ⟨_, rfl, iteF ?_⟩
  | refine ⟨_, rfl, ?_⟩
  | refine ⟨_, _, rfl, rfl, (by walk_at "side"), ?_⟩
  | refine ⟨_, _, rfl, rfl, ?_⟩
  | refine ⟨_, _, _, _, true, rfl, .ty _, .base (.int _), kit_ty (a := "int") (by decide +kernel), ?_⟩
  | refine ⟨_, _, _, _, false, rfl, .ty _, .base (.int _), kit_ty (a := "int") (by decide +kernel), ?_⟩
  | refine ⟨_, _, rfl, (by walk_at "sq"), ?_⟩
  | refine ⟨_, _, _, _, rfl, rfl, (by walk_at "sq"), (by first | rfl | assumption), ?_⟩
  | refine Or.inl ⟨_, _, _, _, rfl, rfl, (by walk_at "sq"), (by first | rfl | assumption), ?_⟩
  | refine Or.inr (Or.inl ⟨_, _, _, _, rfl, rfl, (by walk_at "sq"), (by first | rfl | assumption), ?_⟩)
  | refine ⟨_, _, rfl, Or.inl ⟨(by walk_at "sq"), ?_⟩⟩
  | refine ⟨rfl, ?_⟩
  | refine iteT ?_
  | refine iteF ?_
  | refine ⟨_, _, _, _, _, rfl, (by assumption), (by assumption), (by assumption), (by assumption), ?_⟩
  | refine Or.inl ⟨_, rfl, ?_⟩
  | refine Or.inr ⟨_, rfl, ?_⟩
  | refine ⟨_, _, rfl, (by walk_at "side"), ?_⟩
  | refine ⟨_, _, rfl, ?_⟩)
local macro_rules | `(tactic| walk_at "fld") => `(tactic| skip)
local macro_rules | `(tactic| walk_at "s") => `(tactic| repeat walk_at "1")
local macro_rules | `(tactic| walk_at "size") => `(tactic| first | exact Nat.le_of_ble_eq_true rfl | (simp only [List.length_map, List.length_append, List.length_cons, List.length_nil]; omega))
local macro_rules | `(tactic| walk_at "new") => `(tactic| (first | refine ⟨(by walk_at "size"), fun p hp => ?_⟩ | refine fun p hp => ?_); (generalize hq : upd _ p _ = H1); (obtain ⟨s, e⟩ := new_facts hp hq); clear hq)

/-- two tuples of times compared -/
theorem rd_eqT {K : PySem.W.Frag} {H : Hp} {Q : VK} {p q : Addr} (xs ys : List (Option Int)) (h1 : SqT K H p (xs.map ov)) (h2 : SqT K H q (ys.map ov)) (k : Q (.bl (decide (xs = ys))) H) : rEqD K (.ref p) (.ref q) H Q :=
  ⟨_, _, .tup h1 (dpAll_ov xs), .tup h2 (dpAll_ov ys), shaped_t xs, shaped_t ys, by
    rw [show PyData.eqv (.tuple (xs.map od)) (.tuple (ys.map od)) = PyData.eqvAll (xs.map od) (ys.map od) from rfl, eqvAll_od]
    exact k⟩
/-- what isinstance and == ask of the class of rows -/
structure RowEq (K : PySem.W.Frag) (mg : Str → Option Value) (C : Addr) : Prop where
  g : mg "Row" = some (.ref C)
  ins : ∀ (H : Hp) (a dx : Addr) (fs : List (Str × V)), H a = some (.ins C dx fs) → TyX K H (.ref a) (.ref C)
  self : PySem.W.kitOne K (.ref C) (.ref C) = some true
  tup : PySem.W.kitOne K (.type "tuple") (.ref C) = some false
  str : PySem.W.kitOne K (.type "str") (.ref C) = some false
  nself : PySem.W.notFirst K C (.ref C) = true
  ntup : PySem.W.notFirst K C (.type "tuple") = true
  nstr : PySem.W.notFirst K C (.type "str") = true
  ne : PySem.W.findIn K (.ref C) "__ne__" = some (some (.builtin "object.__ne__"))
  mro : PySem.W.mroIn K C (.type "object") = some true
def wordO : Option Int → Str
  | none => "-"
  | some i => toString i
section
variable {P : Program} {w : World} {K : PySem.W.Frag} {mg : Str → Option Value} {base : Heap} {C : Addr}
abbrev s_word_of : Stmt := topS 24
theorem sc_word_of : FnScope ["thing"] ["thing"] (defScope s_word_of) := ⟨rfl, rfl, rfl, by decide +kernel, rfl, by decide +kernel, by decide +kernel⟩
def spWord : Sp := fun vs H Q _ => ∃ t : Option Int, vs = [ov t] ∧ (∀ i, t = some i → i.natAbs.log2 < 1920) ∧ Q (.str (wordO t)) H
theorem ok_word_of (D : Df K mg "_word_of" s_word_of ["thing"]) (mstr : mg "str" = none) : Own P w K mg base "_word_of" 1 ["thing"] spWord := by
  refine D.own sc_word_of (fun vs H Q E h => ?_) (fun fa cdv A outer s H vs Q E hr h => ?_)
  · obtain ⟨_, rfl, _⟩ := h
    rfl
  · obtain ⟨t, rfl, hz, k⟩ := h
    refine ⟨_, (pss_one (ps_ret (pe_ifExp (pt_cmpR op_isN (pv 0) pe_non (nomark _)) pe_str (pe_callTy call_str_int (by rfl) mstr (by decide +kernel) (pa_cons (pv 0) pa_nil))))), ?_⟩
    cases t with
    | none =>
      walk_at "s"
      exact k
    | some i =>
      walk_at "s"
      first | exact ⟨_, rfl, hz i rfl, k⟩ | exact ⟨hz i rfl, k⟩
/-- == of rows -/
abbrev s_Row_eq : Stmt := inClass (topS 16) 5
theorem sc_Row_eq : FnScope ["self", "other"] ["self", "other"] (defScope s_Row_eq) := ⟨rfl, rfl, rfl, by decide +kernel, rfl, by decide +kernel, by decide +kernel⟩
def spEqRow (K : PySem.W.Frag) (C : Addr) : Sp := fun vs H Q _ => ∃ (p : Addr) (f a : List (Option Int)) (m : Int) (y : V), vs = [.ref p, y] ∧ RowAt C H p f a m ∧
  ((∃ t, TyX K H y t ∧ PySem.W.kitOne K t (.ref C) = some false ∧ Q (.bl false) H) ∨
   (∃ (q : Addr) (f2 a2 : List (Option Int)) (m2 : Int), y = .ref q ∧ RowAt C H q f2 a2 m2 ∧ Q (.bl (decide (f = f2 ∧ a = a2 ∧ m = m2))) H))
theorem ok_eq {f1 : Addr} {fd : FuncData} (F : Fun K "__eq__" "Row.__eq__" s_Row_eq f1 fd) (R : RowCls K mg C) (T : Txt mg) (Z : RowEq K mg C) : FnOk P w K mg base CX0 1 f1 fd ["self", "other"] (spEqRow K C) := by
  refine F.ok sc_Row_eq (fun vs H Q E h => ?_) (fun cdv A outer s H vs Q E hr h => ?_)
  · obtain ⟨_, _, _, _, _, rfl, _⟩ := h
    rfl
  · obtain ⟨p, f, a, m, y, rfl, ⟨dx, pf, pa, h1, h2, h3⟩, k⟩ := h
    refine ⟨_, (pss_cons (ps_if (pt_not (pt_val (pe_callB call_isi (by rfl) T.isinstance (by decide +kernel) (pa_cons (pv 1) (pa_cons (pe_glob (v := .ref C) (by rfl) Z.g rfl) pa_nil)))))
    (pss_one (ps_ret pe_bl))
    pss_nil)
  (pss_one (ps_ret (pe_and (pe_cmpR (op_eqD hr.units) (pe_fld (pv 0) rfl) (pe_fld (pv 1) rfl) (nomark _)) (pe_and (pe_cmpR (op_eqD hr.units) (pe_fld (pv 0) rfl) (pe_fld (pv 1) rfl) (nomark _)) (pe_one (pe_cmpR op_eq (pe_fld (pv 0) rfl) (pe_fld (pv 1) rfl) (nomark _)))))))), ?_⟩
    have cl := R.cl
    have nF := R.nF
    have nA := R.nA
    have nM := R.nM
    have hl := lk_again pf pa m
    have hl2 := lk_more pf pa m
    have hl3 := lk_first pf pa m
    refine ⟨_, rfl, ?_⟩
    rcases k with ⟨t, ty, kt, k⟩ | ⟨q, f2, a2, m2, rfl, ⟨dx2, pf2, pa2, g1, g2, g3⟩, k⟩
    · refine ⟨_, _, _, _, false, rfl, .own _, ty, kt, ?_⟩
      walk_at "s"
      exact k
    · refine ⟨_, _, _, _, true, rfl, .own _, Z.ins _ _ _ _ g1, Z.self, ?_⟩
      have gl := lk_again pf2 pa2 m2
      have gl2 := lk_more pf2 pa2 m2
      have gl3 := lk_first pf2 pa2 m2
      walk_at "s"
      refine rd_eqT f f2 (SqT.of h2) (SqT.of g2) ?_
      by_cases e1 : f = f2
      · rw [decide_eq_true e1]
        walk_at "s"
        refine rd_eqT a a2 (SqT.of h3) (SqT.of g3) ?_
        by_cases e2 : a = a2
        · rw [decide_eq_true e2]
          walk_at "s"
          have e : decide (V.int m = V.int m2) = decide (f = f2 ∧ a = a2 ∧ m = m2) := by
            by_cases e3 : m = m2
            · subst e1 e2 e3
              simp
            · rw [decide_eq_false (fun z => e3 (V.int.inj z)), decide_eq_false (fun z => e3 z.2.2)]
          rw [e]
          exact k
        · rw [decide_eq_false e2]
          walk_at "s"
          rw [decide_eq_false (fun z => e2 z.2.1)] at k
          exact k
      · rw [decide_eq_false e1]
        walk_at "s"
        rw [decide_eq_false (fun z => e1 z.1)] at k
        exact k
end
end My.Rw

namespace My.Rw
open PySem PySem.Spec PyProof.Rows L2
theorem later1_later1 (x y : Int) (z : Option Int) : later1 x (later1 y z) = later1 (y + x) z := by
  cases z with
  | none => rfl
  | some v =>
    show some (v + y + x) = some (v + (y + x))
    rw [Int.add_assoc]
theorem later1_zero (z : Option Int) : later1 0 z = z := by
  cases z with
  | none => rfl
  | some v =>
    show some (v + 0) = some v
    rw [Int.add_zero]
theorem gt_lt {xs : List (Option Int)} {i : Nat} (h : i < xs.length) : gt xs i = xs[i] := by
  unfold gt
  rw [List.getElem?_eq_getElem h]
  rfl
theorem get_some {xs : List (Option Int)} {i : Nat} (h : i < xs.length) : xs[i]? = some (gt xs i) := by
  rw [gt_lt h, List.getElem?_eq_getElem h]
/-- one turn of the again part -/
theorem fits_step {a : List (Option Int)} {m : Int} {t : Nat} (F : Fits a m t) {i : Nat} (h : i + t < a.length) : gt a (i + t) = later1 (m * t / a.length) (gt a i) := by
  have e := congrArg (fun l => l[i]?) F.eq
  simp only [List.getElem?_drop, List.getElem?_map] at e
  rw [List.getElem?_take_of_lt (by omega), Nat.add_comm t i] at e
  unfold gt
  rw [e]
  cases a[i]? with
  | none => rfl
  | some x => rfl
theorem fits_num {a : List (Option Int)} {m : Int} {t : Nat} (F : Fits a m t) {c : Nat} (hc : a.length = t * c) (h0 : 0 < a.length) : m = (m * t / a.length) * c := by
  have h1 : (m * t / a.length) * (a.length : Int) = m * t := by
    have := Int.mul_ediv_add_emod (m * t) a.length
    rw [F.num] at this
    rw [Int.mul_comm]
    omega
  have ht : (t : Int) ≠ 0 := by have := F.pos; omega
  generalize m * t / a.length = g at h1 ⊢
  have h2 : (g * c) * t = m * t := by
    rw [← h1, hc, Int.natCast_mul, Int.mul_assoc, Int.mul_comm (c : Int) (t : Int)]
  exact (Int.eq_of_mul_eq_mul_right ht h2).symm
theorem fits_iter {a : List (Option Int)} {m : Int} {t : Nat} (F : Fits a m t) (r : Nat) : ∀ j : Nat, r + j * t < a.length → gt a (r + j * t) = later1 (j * (m * t / a.length)) (gt a r)
  | 0, _ => by
    rw [Nat.zero_mul, Nat.add_zero, Int.natCast_zero, Int.zero_mul, later1_zero]
  | j + 1, h => by
    have e : r + (j + 1) * t = (r + j * t) + t := by rw [Nat.succ_mul, Nat.add_assoc]
    rw [e] at h ⊢
    rw [fits_step F h, fits_iter F r j (by omega), later1_later1]
    congr 1
    rw [show ((j + 1 : Nat) : Int) = (j : Int) + 1 by omega, Int.add_mul, Int.one_mul]
/-- the again part by its least turn -/
theorem again_least {a : List (Option Int)} {m : Int} {t : Nat} (F : Fits a m t) (h0 : 0 < a.length) (i : Nat) : later1 ((i / a.length : Nat) * m) (gt a (i % a.length)) = later1 ((i / t : Nat) * (m * t / a.length)) (gt a (i % t)) := by
  obtain ⟨c, hc⟩ := F.dvd
  have hm := fits_num F hc h0
  have ht := F.pos
  have hs : i % a.length = (i % a.length) % t + (i % a.length) / t * t := by
    have := Nat.mod_add_div (i % a.length) t
    rw [Nat.mul_comm t] at this
    exact this.symm
  have hlt := Nat.mod_lt i h0
  have e1 : (i % a.length) % t = i % t := by
    rw [hc]
    exact Nat.mod_mul_right_mod i t c
  have e2 : i / t = i / a.length * c + (i % a.length) / t := by
    have h1 : i = a.length * (i / a.length) + i % a.length := (Nat.div_add_mod i a.length).symm
    have h2 : a.length * (i / a.length) = t * (i / a.length * c) := by
      rw [show a.length * (i / a.length) = t * c * (i / a.length) by rw [← hc], Nat.mul_assoc, Nat.mul_comm c]
    have h3 : i = i % a.length + t * (i / a.length * c) := by omega
    calc i / t = (i % a.length + t * (i / a.length * c)) / t := by rw [← h3]
      _ = i % a.length / t + i / a.length * c := Nat.add_mul_div_left _ _ ht
      _ = _ := Nat.add_comm _ _
  have e3 : gt a (i % a.length) = later1 (((i % a.length) / t : Nat) * (m * t / a.length)) (gt a (i % t)) := by
    have h4 := fits_iter F ((i % a.length) % t) ((i % a.length) / t) (by rw [← hs]; exact hlt)
    rw [← hs, e1] at h4
    exact h4
  rw [e3, later1_later1]
  congr 1
  rw [e2, Int.natCast_add, Int.add_mul, Int.add_comm, Int.natCast_mul]
  congr 1
  have : (((i / a.length : Nat) : Int) * m) = ((i / a.length : Nat) : Int) * ((m * t / a.length) * c) := by rw [← hm]
  rw [this, Int.mul_assoc]
  congr 1
  exact Int.mul_comm _ _
section
variable {f a : List (Option Int)} {m : Int}
theorem tm_lt {n : Nat} (h : n < f.length + a.length) : tmR f a m n = gt (f ++ a) n := by
  unfold tmR gt
  by_cases c : n < f.length
  · rw [if_pos c, List.getElem?_append_left c]
  · have c2 : n - f.length < a.length := by omega
    rw [if_neg c, List.getElem?_append_right (by omega), Nat.div_eq_of_lt c2, Nat.mod_eq_of_lt c2, Int.natCast_zero, Int.zero_mul, later1_zero]
theorem tm_ge {t : Nat} (F : Fits a m t) (h0 : 0 < a.length) {n : Nat} (h : f.length ≤ n) : tmR f a m n = later1 (((n - f.length) / t : Nat) * (m * t / a.length)) (gt a ((n - f.length) % t)) := by
  unfold tmR
  rw [if_neg (by omega)]
  exact again_least F h0 _
/-- from b on all comes again -/
theorem tm_step {t b : Nat} (F : LeastTurn a m t) (S : ShortF (f ++ a) t (m * t / a.length) f.length b) (h0 : 0 < a.length) {n : Nat} (h : b ≤ n) : tmR f a m (n + t) = later1 (m * t / a.length) (tmR f a m n) := by
  have ht := F.fits.pos
  have hle := F.le
  by_cases c : n < f.length
  · have e := S.eq n h c
    have l1 : n + t < (f ++ a).length := by rw [List.length_append]; omega
    have l2 : n < (f ++ a).length := by rw [List.length_append]; omega
    rw [tm_lt (n := n + t) (by omega), tm_lt (n := n) (by omega)]
    rw [get_some l1, get_some l2] at e
    exact Option.some.inj e
  · rw [tm_ge F.fits h0 (n := n + t) (by omega), tm_ge F.fits h0 (n := n) (by omega), later1_later1]
    have e1 : (n + t - f.length) = (n - f.length) + t := by omega
    rw [e1, Nat.add_div_right _ ht, Nat.add_mod_right]
    congr 1
    rw [show (((n - f.length) / t + 1 : Nat) : Int) = (((n - f.length) / t : Nat) : Int) + 1 by omega, Int.add_mul, Int.one_mul]
theorem tm_iter {t b : Nat} (F : LeastTurn a m t) (S : ShortF (f ++ a) t (m * t / a.length) f.length b) (h0 : 0 < a.length) {n : Nat} (h : b ≤ n) : ∀ q : Nat, tmR f a m (n + q * t) = later1 (q * (m * t / a.length)) (tmR f a m n)
  | 0 => by rw [Nat.zero_mul, Nat.add_zero, Int.natCast_zero, Int.zero_mul, later1_zero]
  | q + 1 => by
    rw [show n + (q + 1) * t = (n + q * t) + t by rw [Nat.succ_mul, Nat.add_assoc], tm_step F S h0 (by omega), tm_iter F S h0 h q, later1_later1]
    congr 1
    rw [show ((q + 1 : Nat) : Int) = (q : Int) + 1 by omega, Int.add_mul, Int.one_mul]
theorem gt_take {xs : List (Option Int)} {b n : Nat} (h : n < b) : gt (xs.take b) n = gt xs n := by
  unfold gt
  rw [List.getElem?_take_of_lt h]
theorem gt_mid {xs : List (Option Int)} {b t n : Nat} (h : n < t) : gt ((xs.drop b).take t) n = gt xs (b + n) := by
  unfold gt
  rw [List.getElem?_take_of_lt h, List.getElem?_drop]
/-- what is made has the same times -/
theorem made_times {f' a' : List (Option Int)} {m' : Int} (M : MadeOf f a m f' a' m') (h0 : 0 < a.length) (n : Nat) : tmR f' a' m' n = tmR f a m n := by
  obtain ⟨t, b, F, S, rfl, rfl, rfl⟩ := M
  have ht := F.fits.pos
  have hle := F.le
  have hb := S.le
  have l1 : ((f ++ a).take b).length = b := by rw [List.length_take, List.length_append]; omega
  have l2 : (((f ++ a).drop b).take t).length = t := by rw [List.length_take, List.length_drop, List.length_append]; omega
  by_cases c : n < b
  · rw [show tmR f a m n = gt (f ++ a) n from tm_lt (by omega)]
    unfold tmR
    rw [l1, if_pos c, gt_take c]
  · have hr : (n - b) % t < t := Nat.mod_lt _ ht
    have e : n = (b + (n - b) % t) + (n - b) / t * t := by
      have := Nat.mod_add_div (n - b) t
      rw [Nat.mul_comm t] at this
      omega
    unfold tmR
    rw [l1, l2, if_neg c, gt_mid hr]
    have e2 := tm_iter F S h0 (n := b + (n - b) % t) (by omega) ((n - b) / t)
    rw [← e, tm_lt (n := b + (n - b) % t) (by omega)] at e2
    unfold tmR at e2
    exact e2.symm
end
end My.Rw

namespace My.Rw
open PySem PySem.Spec PyProof.Rows L2
def leO : Option Int → Option Int → Prop
  | none, _ => True
  | some _, none => False
  | some x, some y => x ≤ y
theorem leO_refl : ∀ x, leO x x
  | none => trivial
  | some x => Int.le_refl x
theorem leO_trans : ∀ {x y z}, leO x y → leO y z → leO x z
  | none, _, _, _, _ => trivial
  | some _, none, _, h, _ => h.elim
  | some _, some _, none, _, h => h.elim
  | some _, some _, some _, h1, h2 => Int.le_trans h1 h2
theorem upTo_le {t : Int} : ∀ {x y}, leO x y → upTo t y = true → upTo t x = true
  | none, _, _, _ => rfl
  | some _, none, h, _ => h.elim
  | some x, some y, h, u => by
    have h' : x ≤ y := h
    have u' : y ≤ t := of_decide_eq_true u
    exact decide_eq_true (by omega)
theorem prefix_count {t : Int} : ∀ {L : List (Option Int)}, (∀ i j, i ≤ j → j < L.length → leO (gt L i) (gt L j)) → ∀ i, i < L.length → upTo t (gt L i) = decide (i < (L.filter (upTo t)).length)
  | [], _, _, h => nomatch h
  | x :: r, hm, i, hi => by
    have hr : ∀ i j, i ≤ j → j < r.length → leO (gt r i) (gt r j) := fun i j h1 h2 => hm (i + 1) (j + 1) (by omega) (by simp only [List.length_cons]; omega)
    by_cases u : upTo t x = true
    · rw [List.filter_cons_of_pos u]
      cases i with
      | zero =>
        show upTo t x = _
        rw [u]
        exact (decide_eq_true (by simp)).symm
      | succ i =>
        show upTo t (gt r i) = _
        rw [prefix_count hr i (by simpa using hi)]
        simp only [List.length_cons, Nat.add_lt_add_iff_right]
    · have hall : ∀ j, j < (x :: r).length → upTo t (gt (x :: r) j) = false := fun j hj => by
        cases e : upTo t (gt (x :: r) j) with
        | false => rfl
        | true => exact absurd (upTo_le (hm 0 j (Nat.zero_le _) hj) e) u
      have hf : (x :: r).filter (upTo t) = [] := by
        rw [List.filter_eq_nil_iff]
        intro y hy q
        obtain ⟨j, hj, e⟩ := List.getElem_of_mem hy
        have := hall j hj
        rw [gt_lt hj, e, q] at this
        cases this
      rw [hf, hall i hi]
      exact (decide_eq_false (by simp)).symm
section
variable {f a : List (Option Int)} {m : Int}
theorem mono_all (h : ∀ n, leO (tmR f a m n) (tmR f a m (n + 1))) {i j : Nat} (hij : i ≤ j) : leO (tmR f a m i) (tmR f a m j) := by
  obtain ⟨d, rfl⟩ := Nat.le.dest hij
  induction d with
  | zero => exact leO_refl _
  | succ d ih => exact leO_trans (ih (by omega)) (h (i + d))
theorem tm_f {n : Nat} (h : n < f.length) : tmR f a m n = gt f n := if_pos h
theorem tm_a {r : Nat} (q : Nat) (h : r < a.length) : tmR f a m (f.length + (r + q * a.length)) = later1 (q * m) (gt a r) := by
  unfold tmR
  rw [if_neg (by omega), Nat.add_sub_cancel_left, Nat.add_mul_mod_self_right, Nat.mod_eq_of_lt h, Nat.add_mul_div_right _ _ (by omega), Nat.div_eq_of_lt h, Nat.zero_add]
theorem filter_len (t : Int) (L : List (Option Int)) : (L.filter (upTo t)).length ≤ L.length := List.length_filter_le _ _
/-- what count tells -/
theorem cnt_spec {lo time : Int} (hne : 0 < a.length) (m0 : 0 ≤ m) (mono : ∀ i j, i ≤ j → leO (tmR f a m i) (tmR f a m j)) (hlo : gt a 0 = some lo) (h : time < lo ∨ 0 < m) :
    ∃ N : Nat, cntR f a m time = some (N : Int) ∧ ∀ n, upTo time (tmR f a m n) = decide (n < N) := by
  have hS : tmR f a m f.length = some lo := by
    have := tm_a (f := f) (m := m) 0 hne
    rw [Nat.zero_mul, Nat.add_zero, Int.natCast_zero, Int.zero_mul, later1_zero, hlo] at this
    exact this
  have hF : ∀ i j, i ≤ j → j < f.length → leO (gt f i) (gt f j) := fun i j h1 h2 => by
    have := mono i j h1
    rw [tm_f (by omega), tm_f h2] at this
    exact this
  by_cases c : time < lo
  · have hn : ¬ (m = 0 ∧ lo ≤ time) := fun q => by omega
    refine ⟨(f.filter (upTo time)).length, ?_, fun n => ?_⟩
    · unfold cntR
      rw [hlo]
      exact (if_neg hn).trans (if_pos c)
    · by_cases cn : n < f.length
      · rw [tm_f cn]
        exact prefix_count hF n cn
      · have h1 := mono f.length n (by omega)
        rw [hS] at h1
        have h2 : upTo time (tmR f a m n) = false := by
          cases e : upTo time (tmR f a m n) with
          | false => rfl
          | true =>
            have := upTo_le h1 e
            have : lo ≤ time := of_decide_eq_true this
            omega
        rw [h2]
        have := filter_len time f
        exact (decide_eq_false (by omega)).symm
  · have hm : 0 < m := by omega
    have hn : ¬ (m = 0 ∧ lo ≤ time) := fun q => by omega
    have hT0 : 0 ≤ (time - lo) / m := Int.ediv_nonneg (by omega) m0
    obtain ⟨T, hT⟩ := Int.eq_ofNat_of_zero_le hT0
    have hR0 := Int.emod_nonneg (time - lo) (by omega : m ≠ 0)
    have hR1 := Int.emod_lt_of_pos (time - lo) hm
    have hsum := Int.mul_ediv_add_emod (time - lo) m
    rw [hT] at hsum
    generalize hR : (time - lo) % m = R at hR0 hR1 hsum
    have hA : ∀ i j, i ≤ j → j < a.length → leO (gt a i) (gt a j) := fun i j h1 h2 => by
      have := mono (f.length + (i + 0 * a.length)) (f.length + (j + 0 * a.length)) (by omega)
      rw [tm_a 0 (by omega), tm_a 0 h2, Int.natCast_zero, Int.zero_mul, later1_zero, later1_zero] at this
      exact this
    have hbeg := filter_len (lo + R) a
    refine ⟨f.length + (T * a.length + (a.filter (upTo (lo + R))).length), ?_, fun n => ?_⟩
    · unfold cntR
      rw [hlo]
      refine ((if_neg hn).trans (if_neg c)).trans ?_
      rw [hT, hR]
      congr 1
      rw [Int.natCast_add, Int.natCast_add, Int.natCast_mul, Int.add_assoc]
    · by_cases cn : n < f.length
      · have h1 := mono n f.length (by omega)
        rw [hS] at h1
        rw [upTo_le h1 (decide_eq_true (by omega : lo ≤ time))]
        exact (decide_eq_true (by omega)).symm
      · have hr : (n - f.length) % a.length < a.length := Nat.mod_lt _ hne
        have e : n = f.length + ((n - f.length) % a.length + (n - f.length) / a.length * a.length) := by
          have := Nat.mod_add_div (n - f.length) a.length
          rw [Nat.mul_comm a.length] at this
          omega
        generalize (n - f.length) % a.length = r at hr e
        generalize (n - f.length) / a.length = q at e
        have hx0 := hA 0 r (Nat.zero_le _) hr
        have hx1 := mono (f.length + (r + 0 * a.length)) (f.length + (0 + 1 * a.length)) (by omega)
        rw [tm_a 0 hr, tm_a 1 hne, Int.natCast_zero, Int.zero_mul, later1_zero, hlo] at hx1
        rw [hlo] at hx0
        have hpc := prefix_count (t := lo + R) hA r hr
        rw [e, tm_a q hr]
        cases hx : gt a r with
        | none =>
          rw [hx] at hx0
          exact hx0.elim
        | some x =>
          rw [hx] at hx0 hx1 hpc
          have x0 : lo ≤ x := hx0
          have x1 : x ≤ lo + ((1 : Nat) : Int) * m := hx1
          show decide (x + (q : Int) * m ≤ time) = _
          have hpc' : decide (x ≤ lo + R) = decide (r < (a.filter (upTo (lo + R))).length) := hpc
          generalize (a.filter (upTo (lo + R))).length = B at hbeg hpc'
          have hB : x ≤ lo + R ↔ r < B := by
            constructor
            · intro z
              rw [decide_eq_true z] at hpc'
              exact of_decide_eq_true hpc'.symm
            · intro z
              rw [decide_eq_true z] at hpc'
              exact of_decide_eq_true hpc'
          have hiff : (x + (q : Int) * m ≤ time) ↔ (f.length + (r + q * a.length) < f.length + (T * a.length + B)) := by
            have ht : time = lo + (m * (T : Int) + R) := by omega
            rcases Nat.lt_trichotomy q T with g | g | g
            · have k1 : (q + 1) * a.length ≤ T * a.length := Nat.mul_le_mul_right _ g
              have k2 : ((q : Int) + 1) * m ≤ (T : Int) * m := Int.mul_le_mul_of_nonneg_right (by omega) m0
              rw [Nat.succ_mul] at k1
              rw [Int.add_mul, Int.one_mul] at k2
              rw [Int.mul_comm m] at ht
              constructor
              · intro _
                omega
              · intro _
                omega
            · subst g
              rw [Int.mul_comm m] at ht
              constructor
              · intro z
                have := hB.mp (by omega)
                omega
              · intro z
                have := hB.mpr (by omega)
                omega
            · have k1 : (T + 1) * a.length ≤ q * a.length := Nat.mul_le_mul_right _ g
              have k2 : ((T : Int) + 1) * m ≤ (q : Int) * m := Int.mul_le_mul_of_nonneg_right (by omega) m0
              rw [Nat.succ_mul] at k1
              rw [Int.add_mul, Int.one_mul] at k2
              rw [Int.mul_comm m] at ht
              constructor
              · intro _
                omega
              · intro _
                omega
          by_cases z : x + (q : Int) * m ≤ time
          · rw [decide_eq_true z, decide_eq_true (hiff.mp z)]
          · rw [decide_eq_false z, decide_eq_false (fun y => z (hiff.mpr y))]
end
end My.Rw

namespace My.Rw
open PySem PySem.Spec PyProof.Rows L2
/-- from b on all comes again t goings later, g later -/
def Qp (s : Nat → Option Int) (b t : Nat) (g : Int) : Prop := ∀ n, b ≤ n → s (n + t) = later1 g (s n)
theorem later1_inj {g : Int} {x y : Option Int} (h : later1 g x = later1 g y) : x = y := by
  cases x <;> cases y
  · rfl
  · cases h
  · cases h
  · rename_i i j
    have : i + g = j + g := Option.some.inj h
    rw [show i = j by omega]
theorem later1_g {g g' : Int} {x : Option Int} (n : x ≠ none) (h : later1 g x = later1 g' x) : g = g' := by
  cases x with
  | none => exact absurd rfl n
  | some i =>
    have : i + g = i + g' := Option.some.inj h
    omega
theorem Qp.mono {s : Nat → Option Int} {b b' t : Nat} {g : Int} (q : Qp s b t g) (h : b ≤ b') : Qp s b' t g := fun n hn => q n (Nat.le_trans h hn)
theorem Qp.iter {s : Nat → Option Int} {b t : Nat} {g : Int} (q : Qp s b t g) {n : Nat} (h : b ≤ n) : ∀ k : Nat, s (n + k * t) = later1 (k * g) (s n)
  | 0 => by rw [Nat.zero_mul, Nat.add_zero, Int.natCast_zero, Int.zero_mul, later1_zero]
  | k + 1 => by
    rw [show n + (k + 1) * t = (n + k * t) + t by rw [Nat.succ_mul, Nat.add_assoc], q _ (by omega), q.iter h k, later1_later1]
    congr 1
    rw [show ((k + 1 : Nat) : Int) = (k : Int) + 1 by omega, Int.add_mul, Int.one_mul]
/-- a turn on one turn of a row is a turn for ever -/
theorem Qp.spread {s : Nat → Option Int} {b q p : Nat} {m g : Int} (h : Qp s b q m) (hq : 0 < q) (hw : ∀ n, b ≤ n → n < b + q → s (n + p) = later1 g (s n)) : Qp s b p g := by
  intro n hn
  have hr : (n - b) % q < q := Nat.mod_lt _ hq
  have e : n = (b + (n - b) % q) + (n - b) / q * q := by
    have := Nat.mod_add_div (n - b) q
    rw [Nat.mul_comm q] at this
    omega
  generalize hn0 : b + (n - b) % q = n0 at e
  generalize (n - b) / q = k at e
  have h0 : b ≤ n0 := by omega
  have h1 : n0 < b + q := by omega
  rw [e, show n0 + k * q + p = (n0 + p) + k * q by omega, h.iter (by omega) k, h.iter h0 k, hw n0 h0 h1, later1_later1, later1_later1]
  congr 1
  omega
/-- a row never falls to nothing again: so a growth is one number -/
theorem Qp.sub {s : Nat → Option Int} {b q p : Nat} {m g : Int} (hq : Qp s b q m) (hp : Qp s b p g) (k r : Nat) (e : q = k * p + r) : Qp s b r (m - k * g) := by
  intro n hn
  have h1 := hq n hn
  have h2 : s (n + q) = later1 (k * g) (s (n + r)) := by
    rw [e, show n + (k * p + r) = (n + r) + k * p by omega]
    exact hp.iter (by omega) k
  rw [h2] at h1
  have h3 : later1 (k * g) (s (n + r)) = later1 (k * g) (later1 (m - k * g) (s n)) := by
    rw [h1, later1_later1]
    congr 1
    omega
  exact later1_inj h3
/-- there is a least turn, and it divides each -/
theorem least_turn {s : Nat → Option Int} (b : Nat) : ∀ q : Nat, 0 < q → (∃ m, Qp s b q m) → ∃ p g, 0 < p ∧ Qp s b p g ∧ (∀ p', 0 < p' → p' < p → ¬ ∃ g', Qp s b p' g') ∧ ∀ q' m', Qp s b q' m' → p ∣ q' := by
  intro q
  induction q using Nat.strongRecOn with
  | ind q ih =>
    rintro h0 ⟨m, hq⟩
    by_cases c : ∃ p', 0 < p' ∧ p' < q ∧ ∃ g', Qp s b p' g'
    · obtain ⟨p', h1, h2, h3⟩ := c
      exact ih p' h2 h1 h3
    · refine ⟨q, m, h0, hq, fun p' h1 h2 h3 => c ⟨p', h1, h2, h3⟩, fun q' m' h' => ?_⟩
      have hr : q' % q < q := Nat.mod_lt _ h0
      have e : q' = q' / q * q + q' % q := by
        have := Nat.div_add_mod q' q
        rw [Nat.mul_comm] at this
        exact this.symm
      by_cases z : q' % q = 0
      · exact Nat.dvd_of_mod_eq_zero z
      · exact absurd ⟨q' % q, by omega, hr, _, h'.sub hq _ _ e⟩ c
section
variable {f a : List (Option Int)} {m : Int}
theorem tm_qp (h0 : 0 < a.length) : Qp (tmR f a m) f.length a.length m := by
  intro n hn
  unfold tmR
  rw [if_neg (by omega), if_neg (by omega), later1_later1, show n + a.length - f.length = (n - f.length) + a.length by omega, Nat.add_div_right _ h0, Nat.add_mod_right]
  congr 1
  rw [show (((n - f.length) / a.length + 1 : Nat) : Int) = (((n - f.length) / a.length : Nat) : Int) + 1 by omega, Int.add_mul, Int.one_mul]
/-- the times are above nothing from the place f.length on -/
def Lives (f a : List (Option Int)) (m : Int) : Prop := ∀ n, f.length ≤ n → tmR f a m n ≠ none
theorem least_is {t b : Nat} (F : LeastTurn a m t) (h0 : 0 < a.length) (L : Lives f a m) {B t' : Nat} {g' : Int} (h' : 0 < t') (q : Qp (tmR f a m) B t' g') : t ≤ t' := by
  have hq := tm_qp (f := f) (m := m) h0
  generalize hM : max B f.length = M
  have hMB : B ≤ M := by omega
  have hMf : f.length ≤ M := by omega
  obtain ⟨p, g, p0, hp, hleast, hdvd⟩ := least_turn M a.length h0 ⟨m, hq.mono hMf⟩
  have hpt : p ≤ t' := Nat.le_of_dvd h' (hdvd t' g' (q.mono hMB))
  obtain ⟨k, hk⟩ := hdvd a.length m (hq.mono hMf)
  have hm : m = k * g := by
    have h1 := hp.iter (Nat.le_refl M) k
    have h2 := hq M hMf
    rw [hk, Nat.mul_comm p k, h1] at h2
    exact (later1_g (L M hMf) h2).symm
  have hkp : (k : Int) * (p : Int) = (a.length : Int) := by rw [hk, Int.natCast_mul, Int.mul_comm]
  have hmp : m * (p : Int) = (a.length : Int) * g := by
    rw [hm, Int.mul_assoc, Int.mul_comm g, ← Int.mul_assoc, hkp]
  have ha0 : (a.length : Int) ≠ 0 := by omega
  have hg : m * (p : Int) / (a.length : Int) = g := by rw [hmp]; exact Int.mul_ediv_cancel_left _ ha0
  have hfit : Fits a m p := by
    refine ⟨p0, ⟨k, hk⟩, by rw [hmp]; exact Int.mul_emod_right _ _, ?_⟩
    rw [hg]
    have hpa : p ≤ a.length := Nat.le_of_dvd h0 ⟨k, hk⟩
    apply List.ext_getElem
    · rw [List.length_drop, List.length_map, List.length_take]; omega
    · intro i h1 h2
      rw [List.length_drop] at h1
      rw [List.getElem_drop, List.getElem_map, List.getElem_take]
      have x1 : tmR f a m (f.length + (p + i)) = a[p + i]'(by omega) := by
        rw [tm_lt (by omega)]
        unfold gt
        rw [List.getElem?_append_right (by omega), show f.length + (p + i) - f.length = p + i by omega, List.getElem?_eq_getElem (by omega)]
        rfl
      have x2 : tmR f a m (f.length + i) = a[i]'(by omega) := by
        rw [tm_lt (by omega)]
        unfold gt
        rw [List.getElem?_append_right (by omega), show f.length + i - f.length = i by omega, List.getElem?_eq_getElem (by omega)]
        rfl
      rw [← x1, ← x2]
      have y1 := hq.iter (n := f.length + (p + i)) (by omega) M
      have y2 := hq.iter (n := f.length + i) (by omega) M
      have hM1 : M ≤ f.length + i + M * a.length := by
        have : M * 1 ≤ M * a.length := Nat.mul_le_mul_left _ h0
        omega
      have y3 := hp (f.length + i + M * a.length) hM1
      rw [show f.length + i + M * a.length + p = f.length + (p + i) + M * a.length by omega, y1, y2, later1_later1] at y3
      have y4 : later1 (M * m) (tmR f a m (f.length + (p + i))) = later1 (M * m) (later1 g (tmR f a m (f.length + i))) := by
        rw [y3, later1_later1]
        congr 1
        omega
      exact later1_inj y4
  have : t ≤ p := Nat.le_of_not_lt fun c => F.least p c hfit
  omega
/-- what is made, by the times alone -/
structure Canon (s : Nat → Option Int) (t b : Nat) (g : Int) : Prop where
  pos : 0 < t
  qp : Qp s b t g
  tl : ∀ B t' g', 0 < t' → Qp s B t' g' → t ≤ t'
  bl : ∀ B g', Qp s B t g' → b ≤ B
theorem made_canon {f' a' : List (Option Int)} {m' : Int} (M : MadeOf f a m f' a' m') (h0 : 0 < a.length) (L : Lives f a m) :
    ∃ t b, Canon (tmR f a m) t b m' ∧ t ≤ a.length ∧ b ≤ f.length ∧ f' = (List.range b).map (tmR f a m) ∧ a' = (List.range t).map (fun i => tmR f a m (b + i)) := by
  obtain ⟨t, b, F, S, rfl, rfl, rfl⟩ := M
  have ht := F.fits.pos
  have hle := F.le
  have hb := S.le
  have Q : Qp (tmR f a m) b t (m * t / a.length) := fun n hn => tm_step F S h0 hn
  refine ⟨t, b, ⟨ht, Q, fun B t' g' h' q => least_is (b := b) F h0 L h' q, fun B g' q => ?_⟩, hle, hb, ?_, ?_⟩
  · refine Nat.le_of_not_lt fun c => ?_
    have hgg : g' = m * t / a.length := by
      have h1 := q (max B f.length + b) (by omega)
      have h2 := Q (max B f.length + b) (by omega)
      rw [h1] at h2
      exact later1_g (L _ (by omega)) h2
    subst hgg
    rcases S.least with z | z
    · omega
    · refine z ?_
      have l1 : b - 1 + t < (f ++ a).length := by rw [List.length_append]; omega
      have l2 : b - 1 < (f ++ a).length := by rw [List.length_append]; omega
      have h1 := q (b - 1) (by omega)
      rw [List.length_append] at l1 l2
      rw [tm_lt l1, tm_lt l2] at h1
      rw [get_some (by rw [List.length_append]; exact l1), get_some (by rw [List.length_append]; exact l2), h1]
      rfl
  · apply List.ext_getElem
    · rw [List.length_take, List.length_append, List.length_map, List.length_range]; omega
    · intro i h1 h2
      rw [List.length_map, List.length_range] at h2
      rw [List.getElem_take, List.getElem_map, List.getElem_range, tm_lt (by omega), gt_lt (by rw [List.length_append]; omega)]
  · apply List.ext_getElem
    · rw [List.length_take, List.length_drop, List.length_append, List.length_map, List.length_range]; omega
    · intro i h1 h2
      rw [List.length_map, List.length_range] at h2
      rw [List.getElem_take, List.getElem_drop, List.getElem_map, List.getElem_range, tm_lt (by omega), gt_lt (by rw [List.length_append]; omega)]
/-- one row has one least form -/
theorem Canon.uniq {s : Nat → Option Int} {t b t' b' : Nat} {g g' : Int} (C : Canon s t b g) (C' : Canon s t' b' g') (L : ∀ N, ∃ n, N ≤ n ∧ s n ≠ none) : t = t' ∧ b = b' ∧ g = g' := by
  have e : t = t' := Nat.le_antisymm (C.tl _ _ _ C'.pos C'.qp) (C'.tl _ _ _ C.pos C.qp)
  subst e
  obtain ⟨n, hn, z⟩ := L (b + b')
  have h1 := C.qp n (by omega)
  rw [C'.qp n (by omega)] at h1
  exact ⟨rfl, Nat.le_antisymm (C.bl _ _ C'.qp) (C'.bl _ _ C.qp), (later1_g z h1).symm⟩
end
/-- two rows that are the same for a while are the same -/
theorem same_for_ever {s s' : Nat → Option Int} {N q q' W : Nat} {m m' : Int} (h : Qp s N q m) (h' : Qp s' N q' m') (h0 : 0 < q) (h0' : 0 < q') (hW : N + q + q' ≤ W) (hs : ∀ n, n < W → s n = s' n) (n : Nat) : s n = s' n := by
  have k : Qp s N q' m' := h.spread h0 fun n h1 h2 => by
    rw [hs n (by omega), hs (n + q') (by omega)]
    exact h' n h1
  induction n using Nat.strongRecOn with
  | ind n ih =>
    by_cases c : n < W
    · exact hs n c
    · have e : n = (n - q') + q' := by omega
      rw [e, k _ (by omega), h' _ (by omega), ih (n - q') (by omega)]
/-- a row told with longer beginnings and turns -/
theorem wide_times {s : Nat → Option Int} {N q B c : Nat} {m : Int} (h : Qp s N q m) (hB : N ≤ B) (hq : 0 < q) (hc : 0 < c) (n : Nat) :
    tmR ((List.range B).map s) ((List.range (c * q)).map fun i => s (B + i)) (c * m) n = s n := by
  unfold tmR
  rw [List.length_map, List.length_range, List.length_map, List.length_range]
  have hcq : 0 < c * q := Nat.mul_pos hc hq
  by_cases z : n < B
  · rw [if_pos z]
    unfold gt
    rw [List.getElem?_map, List.getElem?_range z]
    rfl
  · rw [if_neg z]
    have hr : (n - B) % (c * q) < c * q := Nat.mod_lt _ hcq
    have e : n = (B + (n - B) % (c * q)) + ((n - B) / (c * q) * c) * q := by
      have := Nat.mod_add_div (n - B) (c * q)
      rw [Nat.mul_comm (c * q), ← Nat.mul_assoc] at this
      omega
    have k := h.iter (n := B + (n - B) % (c * q)) (by omega) ((n - B) / (c * q) * c)
    rw [← e] at k
    rw [k]
    unfold gt
    rw [List.getElem?_map, List.getElem?_range hr, Int.natCast_mul, Int.mul_assoc]
    rfl
/-- the law's own search: a turn seen for a while is one -/
theorem seen_turn {s : Nat → Option Int} {N q : Nat} {m : Int} (h : Qp s N q m) (h0 : 0 < q) {b t W : Nat} {g : Int} (hW : N + q ≤ W) (hb : b ≤ N) (hs : ∀ n, b ≤ n → n < W → s (n + t) = later1 g (s n)) : Qp s b t g := by
  have k : Qp s N t g := h.spread h0 fun n h1 h2 => hs n (by omega) (by omega)
  intro n hn
  by_cases c : n < W
  · exact hs n hn c
  · exact k n (by omega)
end My.Rw

namespace My
open PySem PySem.Spec PyProof.Rows L2
local macro_rules | `(tactic| walk_at "side") => `(tactic| first | (dsimp only; omega) | exact ⟨by omega, by omega⟩ | exact Or.inl ⟨by omega, by omega⟩ | exact Or.inr ⟨by omega, by omega⟩ | decide)
local macro_rules | `(tactic| walk_at "sq") => `(tactic| first | assumption | exact SqL.of (by assumption) | exact SqT.of (by assumption) | (refine L2.Same.seq (by assumption) ?_; walk_at "sq") | (refine L2.Same.seqT (by assumption) ?_; walk_at "sq") | exact Or.inl (by walk_at "sq") | exact Or.inr (by walk_at "sq"))
local macro_rules | `(tactic| walk_at "1") => `(tactic| first
  | refine ⟨_, rfl, iteT ?_⟩
  | refine ⟨_, rfl, iteF ?_⟩
  | refine ⟨_, rfl, ?_⟩
  | refine ⟨_, _, rfl, rfl, (by walk_at "side"), ?_⟩
  | refine ⟨_, _, rfl, rfl, ?_⟩
  | refine ⟨_, _, _, _, true, rfl, .ty _, .base (.int _), kit_ty (a := "int") (by decide +kernel), ?_⟩
  | refine ⟨_, _, _, _, false, rfl, .ty _, .base (.int _), kit_ty (a := "int") (by decide +kernel), ?_⟩
  | refine ⟨_, _, rfl, (by walk_at "sq"), ?_⟩
  | refine ⟨_, _, _, _, rfl, rfl, (by walk_at "sq"), (by first | rfl | assumption), ?_⟩
  | refine Or.inl ⟨_, _, _, _, rfl, rfl, (by walk_at "sq"), (by first | rfl | assumption), ?_⟩
  | refine Or.inr (Or.inl ⟨_, _, _, _, rfl, rfl, (by walk_at "sq"), (by first | rfl | assumption), ?_⟩)
  | refine ⟨_, _, rfl, Or.inl ⟨(by walk_at "sq"), ?_⟩⟩
  | refine ⟨rfl, ?_⟩
  | refine iteT ?_
  | refine iteF ?_
  | refine ⟨_, _, _, _, _, rfl, (by assumption), (by assumption), (by assumption), (by assumption), ?_⟩
  | refine Or.inl ⟨_, rfl, ?_⟩
  | refine Or.inr ⟨_, rfl, ?_⟩
  | refine ⟨_, _, rfl, (by walk_at "side"), ?_⟩
  | refine ⟨_, _, rfl, ?_⟩)
local macro_rules | `(tactic| walk_at "fld") => `(tactic| skip)
local macro_rules | `(tactic| walk_at "s") => `(tactic| repeat walk_at "1")
local macro_rules | `(tactic| walk_at "size") => `(tactic| first | exact Nat.le_of_ble_eq_true rfl | (simp only [List.length_map, List.length_append, List.length_cons, List.length_nil]; omega))
local macro_rules | `(tactic| walk_at "new") => `(tactic| (first | refine ⟨(by walk_at "size"), fun p hp => ?_⟩ | refine fun p hp => ?_); (generalize hq : upd _ p _ = H1); (obtain ⟨s, e⟩ := new_facts hp hq); clear hq)
/-! tallies and rows made, a rule each -/
open Rw (ov)
theorem ov_cV (x : Option Int) : ov x = cV x := by cases x <;> rfl
/-- nothing is wrong with these -/
def TalIn (u : Option Int) (fs : List Stp) (as : List Sti) (t m : Int) : Prop := ∀ d1 d2, isSeqD d1 = true → itemsD d1 = fs.map stD → isSeqD d2 = true → itemsD d2 = as.map siD → wordT (cD u) d1 d2 (.int t) (.int m) = none
theorem as_back (a : List Sti) : ((a.map siD).map stO).map dn = a := by
  have e : a.map siD = (a.map up).map stD := by rw [List.map_map]; rfl
  rw [e, stOs, List.map_map]
  have i : (dn ∘ up) = id := funext fun x => rfl
  rw [i, List.map_id]
theorem c_back (u : Option Int) : cO (cD u) = u := by cases u <;> rfl
theorem rd_tal {C D : Addr} {H : Hp} {v1 v2 : V} {d1 d2 : PyData} {u : Option Int} {fs : List Stp} {as : List Sti} {t m : Int} {Q : VK} {E : XK} (h1 : Dv H v1 d1) (q1 : isSeqD d1 = true) (i1 : itemsD d1 = fs.map stD) (h2 : Dv H v2 d2) (q2 : isSeqD d2 = true) (i2 : itemsD d2 = as.map siD) (lf : fs.length ≤ 1000) (la : as.length ≤ 1000) (W : TalIn u fs as t m)
    (k : ∀ H' p f' a' t' m', Same H H' → H p = none → MadeT fs as t m f' a' t' m' → TalAt C H' p u f' a' t' m' → Q (.ref p) H') :
    ∀ x dx, H x = none → H dx = none → dx ≠ x → spInitT C D [.ref x, cV u, v1, v2, .int t, .int m] (upd (upd H dx (.own x)) x (.ins C dx [])) (fun v H2 => v = .non ∧ Q (.ref x) H2) E := by
  intro x dx nx ndx nex
  have sx : Same H (upd (upd H dx (.own x)) x (.ins C dx [])) := fun b o e => by
    rw [upd_ne (ne_of_none e nx), upd_ne (ne_of_none e ndx)]
    exact e
  have hw := W d1 d2 q1 i1 q2 i2
  refine ⟨H, x, dx, cV u, v1, v2, .int t, .int m, cD u, d1, d2, .int t, .int m, rfl, nx, sx, upd_same, cV_dv u, h1, h2, .int t, .int m, fun w' hw' => (by rw [hw] at hw'; cases hw'), fun _ => ⟨?_, ?_, fun H' f' a' t' m' s' M T => ⟨rfl, ?_⟩⟩⟩
  · rw [i1, List.length_map]
    exact lf
  · rw [i2, List.length_map]
    exact la
  · have M' : MadeT ((itemsD d1).map stO) (((itemsD d2).map stO).map dn) t m f' a' t' m' := M
    rw [i1, i2, stOs, as_back] at M'
    rw [c_back] at T
    exact k _ _ _ _ _ _ s' nx M' T
theorem pe_tal {X : Cx} {C D : Addr} {p pos : Pos} {e : Expr} {es : List Expr} {t : TA} (M : TalMk X.prog X.w X.K X.mg X.base C D) (hr : Room 6 X.A) (ha : PA X (e :: es) t) (hg : Gl X "Tally" := by exact rfl)
    (he : starEach (e :: es) X.env = (false, eval e X.env) :: starEach es X.env := by rfl) (hpl : (backTo pos (starEach es X.env)).any (·.1) = false := by rfl) : PE X (.Call (.Name "Tally" p) (e :: es) [] pos) (tMake C (spInitT C D) [] E0 t) := by
  obtain ⟨f, fd, F, m, K, b⟩ := M.ex
  exact pe_make K F hr hg m b .nil passL ha (by decide) he hpl
/-- the class of rows, whose __init__ has one default -/
structure RowMk (P : Program) (w : World) (K : PySem.W.Frag) (mg : Str → Option Value) (base : Heap) (R : Addr) : Prop where
  ex : ∃ f fd ds, FnOk P w K mg base CX0 4 f fd ["self", "first", "again", "more"] (Rw.spInit R) ∧ mg "Row" = some (.ref R) ∧ Mk K R f ∧ Binds K fd ["self", "first", "again", "more"] [] ∧ Binds K fd ["self", "first", "again", "more"] ds ∧ Vals [.int 0] ds
theorem pe_row {X : Cx} {R : Addr} {p pos : Pos} {e : Expr} {es : List Expr} {t : TA} (M : RowMk X.prog X.w X.K X.mg X.base R) (hr : Room 5 X.A) (ha : PA X (e :: es) t) (hg : Gl X "Row" := by exact rfl)
    (he : starEach (e :: es) X.env = (false, eval e X.env) :: starEach es X.env := by rfl) (hpl : (backTo pos (starEach es X.env)).any (·.1) = false := by rfl) : PE X (.Call (.Name "Row" p) (e :: es) [] pos) (tMake R (Rw.spInit R) [] E0 t) := by
  obtain ⟨f, fd, ds, F, m, K, b, _⟩ := M.ex
  exact pe_make K F hr hg m b .nil pass0 ha (by decide) he hpl
theorem pe_rowD {X : Cx} {R : Addr} {p pos : Pos} {e : Expr} {es : List Expr} {t : TA} (M : RowMk X.prog X.w X.K X.mg X.base R) (hr : Room 5 X.A) (ha : PA X (e :: es) t) (hg : Gl X "Row" := by exact rfl)
    (he : starEach (e :: es) X.env = (false, eval e X.env) :: starEach es X.env := by rfl) (hpl : (backTo pos (starEach es X.env)).any (·.1) = false := by rfl) : PE X (.Call (.Name "Row" p) (e :: es) [] pos) (tMake R (Rw.spInit R) [.int 0] E0 t) := by
  obtain ⟨f, fd, ds, F, m, K, _, b, v⟩ := M.ex
  exact pe_make K F hr hg m b v pass0 ha (by decide) he hpl
theorem rd_row {R : Addr} {H : Hp} {aF aA : Addr} {f a : List (Option Int)} {m : Int} {Q : VK} {E : XK} (h1 : Rw.SqH H aF (f.map ov)) (h2 : Rw.SqH H aA (a.map ov)) (ok : Rw.OkRow f a m) (lf : f.length < 500) (la : a.length < 500) (m0 : 0 ≤ m) (m1 : m < 2 ^ 60)
    (k : ∀ H' p f' a' m', Same H H' → H p = none → Rw.MadeOf f a m f' a' m' → Rw.RowAt R H' p f' a' m' → Q (.ref p) H') :
    ∀ x dx, H x = none → H dx = none → dx ≠ x → Rw.spInit R [.ref x, .ref aF, .ref aA, .int m] (upd (upd H dx (.own x)) x (.ins R dx [])) (fun v H2 => v = .non ∧ Q (.ref x) H2) E := by
  intro x dx nx ndx nex
  have sx : Same H (upd (upd H dx (.own x)) x (.ins R dx [])) := fun b o e => by
    rw [upd_ne (ne_of_none e nx), upd_ne (ne_of_none e ndx)]
    exact e
  exact ⟨H, x, dx, aF, aA, f, a, m, rfl, nx, sx, upd_same, h1, h2, ok, lf, la, m0, m1, fun H' f' a' m' s' T M => ⟨rfl, k _ _ _ _ _ s' nx M T⟩⟩
/-! the small ones: endless, unit, empty, nothings, _unlike -/
/-- the times that are there, each once -/
def uniqO : List (Option Int) → List Int → List Int
  | [], acc => acc
  | none :: r, acc => uniqO r acc
  | some x :: r, acc => uniqO r (if x ∈ acc then acc else acc ++ [x])
def nonesN (f : List (Option Int)) : Nat := (f.filter (·.isNone)).length
def spEndless (C : Addr) : Sp := fun vs H Q _ => vs = [] ∧ ∀ H' p, Same H H' → H p = none → TalAt C H' p none [] [] 0 0 → Q (.ref p) H'
def spOne (R : Addr) (x : Option Int) : Sp := fun vs H Q _ => vs = [] ∧ ∀ H' q, Same H H' → H q = none → Rw.RowAt R H' q [] [x] 0 → Q (.ref q) H'
def spNothings (R : Addr) : Sp := fun vs H Q _ => ∃ (p : Addr) (f a : List (Option Int)) (m : Int), vs = [.ref p] ∧ Rw.RowAt R H p f a m ∧ f.length < 500 ∧ ∀ H', Same H H' → Q (.int (nonesN f : Nat)) H'
def spUnlike (K : PySem.W.Frag) : Sp := fun vs H Q _ => ∃ (p : Addr) (xs : List (Option Int)), vs = [.ref p] ∧ SqT K H p (xs.map ov) ∧ xs.length < 500 ∧ ∀ H' q, Same H H' → H q = none → H' q = some (.lst ((uniqO xs []).map V.int)) → Q (.ref q) H'
theorem made_one {x : Option Int} {f' a' : List (Option Int)} {m' : Int} (M : Rw.MadeOf [] [x] 0 f' a' m') : f' = [] ∧ a' = [x] ∧ m' = 0 := by
  obtain ⟨t, b, F, S, rfl, rfl, rfl⟩ := M
  have h1 := F.fits.pos
  have h2 := F.le
  have h3 := S.le
  simp only [List.length_cons, List.length_nil] at h2 h3
  have ht : t = 1 := by omega
  have hb : b = 0 := by omega
  subst ht hb
  exact ⟨rfl, rfl, by rw [Int.zero_mul, Int.zero_ediv]⟩
theorem made_nil {f : List Stp} {f' : List Stp} {a' : List Sti} {t' m' : Int} (M : MadeT f [] 0 0 f' a' t' m') : f' = f ∧ a' = [] ∧ t' = 0 ∧ m' = 0 := by
  obtain ⟨p, b, L, Sh, e1, e2, rfl, rfl⟩ := M
  have p0 : p = 0 := Nat.le_zero.mp L.le
  subst p0
  have hb := Sh.nil rfl
  have ew : f ++ (([] : List Sti).take 0).map up = f := List.append_nil f
  rw [ew] at e1 e2
  refine ⟨by rw [e1, hb, List.take_length], ?_, by simp, by simp⟩
  rw [List.take_zero] at e2
  exact List.map_eq_nil_iff.mp e2
theorem word_nil {u : PyData} {f : List Stp} {d1 d2 : PyData} (hu : (isNonD u || isNumD u) = true) (q1 : isSeqD d1 = true) (i1 : itemsD d1 = f.map stD) (q2 : isSeqD d2 = true) (i2 : itemsD d2 = []) (af : (f.map stD).all isFD = true) (hr : riseF (none, cO u) f = true) (hl : ((f.getLast?.map prO).getD (none, cO u)).2 = none) :
    wordT u d1 d2 (.int 0) (.int 0) = none := by
  unfold wordT
  rw [if_pos hu, q1, i1, af, if_pos (show (true && true) = true from rfl), stOs, if_pos hr]
  unfold wordA
  rw [q2, i2, if_pos (show (true && ([] : List PyData).all isStepD) = true from rfl)]
  unfold wordR
  rw [hl]
  rfl
section
variable {P : Program} {w : World} {K : PySem.W.Frag} {mg : Str → Option Value} {base : Heap} {C D R : Addr}
abbrev s_endless : Stmt := topS 45
theorem sc_endless : FnScope [] [] (defScope s_endless) := ⟨rfl, rfl, rfl, by decide +kernel, rfl, by decide +kernel, by decide +kernel⟩
theorem ok_endless (F : Df K mg "endless" s_endless []) (M : TalMk P w K mg base C D) : Own P w K mg base "endless" 7 [] (spEndless C) := by
  refine F.own sc_endless (fun vs H Q E h => ?_) (fun fa cdv A outer s H vs Q E hr h => ?_)
  · obtain ⟨rfl, _⟩ := h
    rfl
  · obtain ⟨rfl, k⟩ := h
    refine ⟨_, (pss_one (ps_ret (pe_tal M (hr.mono (by decide)) (pa_cons pe_non (pa_cons (pe_tup pa_nil) (pa_cons (pe_tup pa_nil) (pa_cons pe_int (pa_cons pe_int pa_nil)))))))), ?_⟩
    refine ⟨Nat.zero_le _, fun p np => ⟨Nat.zero_le _, fun q nq => ?_⟩⟩
    generalize hq : upd H p _ = H1 at *
    obtain ⟨s1, e1⟩ := new_facts np hq
    clear hq
    generalize hq : upd H1 q _ = H2
    obtain ⟨s2, e2⟩ := new_facts nq hq
    clear hq
    refine rd_tal (u := none) (fs := []) (as := []) (.tup (s2 _ _ e1) .nil (by decide)) rfl rfl (.tup e2 .nil (by decide)) rfl rfl (by decide) (by decide) (fun d1 d2 q1 i1 q2 i2 => ?_) fun H' p f' a' t' m' s' n' M' T' => ?_
    · exact word_nil (u := .none) (f := []) rfl q1 i1 q2 i2 rfl rfl rfl
    · obtain ⟨rfl, rfl, rfl, rfl⟩ := made_nil M'
      exact k _ _ ((s1.trans s2).trans s') ((s1.trans s2).free n') T'
abbrev s_unit : Stmt := topS 27
theorem sc_unit : FnScope [] [] (defScope s_unit) := ⟨rfl, rfl, rfl, by decide +kernel, rfl, by decide +kernel, by decide +kernel⟩
theorem ok_unit (F : Df K mg "unit" s_unit []) (M : RowMk P w K mg base R) : Own P w K mg base "unit" 6 [] (spOne R (some 0)) := by
  refine F.own sc_unit (fun vs H Q E h => ?_) (fun fa cdv A outer s H vs Q E hr h => ?_)
  · obtain ⟨rfl, _⟩ := h
    rfl
  · obtain ⟨rfl, k⟩ := h
    refine ⟨_, (pss_one (ps_ret (pe_row M (hr.mono (by decide)) (pa_cons (pe_tup pa_nil) (pa_cons (pe_tup (pa_cons pe_int pa_nil)) (pa_cons pe_int pa_nil)))))), ?_⟩
    refine ⟨Nat.zero_le _, fun p np => ⟨Nat.le_of_ble_eq_true rfl, fun q nq => ?_⟩⟩
    generalize hq : upd H p _ = H1 at *
    obtain ⟨s1, e1⟩ := new_facts np hq
    clear hq
    generalize hq : upd H1 q _ = H2
    obtain ⟨s2, e2⟩ := new_facts nq hq
    clear hq
    refine rd_row (f := []) (a := [some 0]) (m := 0) (Or.inr (s2 _ _ e1)) (Or.inr e2) ⟨rfl, rfl, by simp, Or.inl ⟨0, 0, rfl, rfl, fun e he => (by cases he), by decide, by decide⟩⟩ (by decide) (by decide) (by decide) (by decide) fun H' p f' a' m' s' n' M' T' => ?_
    obtain ⟨rfl, rfl, rfl⟩ := made_one M'
    exact k _ _ ((s1.trans s2).trans s') ((s1.trans s2).free n') T'
abbrev s_empty : Stmt := topS 28
theorem sc_empty : FnScope [] [] (defScope s_empty) := ⟨rfl, rfl, rfl, by decide +kernel, rfl, by decide +kernel, by decide +kernel⟩
theorem ok_empty (F : Df K mg "empty" s_empty []) (M : RowMk P w K mg base R) : Own P w K mg base "empty" 6 [] (spOne R none) := by
  refine F.own sc_empty (fun vs H Q E h => ?_) (fun fa cdv A outer s H vs Q E hr h => ?_)
  · obtain ⟨rfl, _⟩ := h
    rfl
  · obtain ⟨rfl, k⟩ := h
    refine ⟨_, (pss_one (ps_ret (pe_row M (hr.mono (by decide)) (pa_cons (pe_tup pa_nil) (pa_cons (pe_tup (pa_cons pe_non pa_nil)) (pa_cons pe_int pa_nil)))))), ?_⟩
    refine ⟨Nat.zero_le _, fun p np => ⟨Nat.le_of_ble_eq_true rfl, fun q nq => ?_⟩⟩
    generalize hq : upd H p _ = H1 at *
    obtain ⟨s1, e1⟩ := new_facts np hq
    clear hq
    generalize hq : upd H1 q _ = H2
    obtain ⟨s2, e2⟩ := new_facts nq hq
    clear hq
    refine rd_row (f := []) (a := [none]) (m := 0) (Or.inr (s2 _ _ e1)) (Or.inr e2) ⟨rfl, rfl, by simp, Or.inr ⟨rfl, rfl, Or.inl rfl, rfl⟩⟩ (by decide) (by decide) (by decide) (by decide) fun H' p f' a' m' s' n' M' T' => ?_
    obtain ⟨rfl, rfl, rfl⟩ := made_one M'
    exact k _ _ ((s1.trans s2).trans s') ((s1.trans s2).free n') T'
end
end My

namespace My
open PySem PySem.Spec PyProof.Rows L2
local macro_rules | `(tactic| walk_at "side") => `(tactic| first | (dsimp only; omega) | exact ⟨by omega, by omega⟩ | exact Or.inl ⟨by omega, by omega⟩ | exact Or.inr ⟨by omega, by omega⟩ | decide)
local macro_rules | `(tactic| walk_at "sq") => `(tactic| first | assumption | exact SqL.of (by assumption) | exact SqT.of (by assumption) | (refine L2.Same.seq (by assumption) ?_; walk_at "sq") | (refine L2.Same.seqT (by assumption) ?_; walk_at "sq") | exact Or.inl (by walk_at "sq") | exact Or.inr (by walk_at "sq"))
local macro_rules | `(tactic| walk_at "1") => `(tactic| first
  | refine ⟨_, rfl, iteT ?_⟩
  | refine ⟨_, rfl, iteF ?_⟩
  | refine ⟨_, rfl, ?_⟩
  | refine ⟨_, _, rfl, rfl, (by walk_at "side"), ?_⟩
  | refine ⟨_, _, rfl, rfl, ?_⟩
  | refine ⟨_, _, _, _, true, rfl, .ty _, .base (.int _), kit_ty (a := "int") (by decide +kernel), ?_⟩
  | refine ⟨_, _, _, _, false, rfl, .ty _, .base (.int _), kit_ty (a := "int") (by decide +kernel), ?_⟩
  | refine ⟨_, _, rfl, (by walk_at "sq"), ?_⟩
  | refine ⟨_, _, _, _, rfl, rfl, (by walk_at "sq"), (by first | rfl | assumption), ?_⟩
  | refine Or.inl ⟨_, _, _, _, rfl, rfl, (by walk_at "sq"), (by first | rfl | assumption), ?_⟩
  | refine Or.inr (Or.inl ⟨_, _, _, _, rfl, rfl, (by walk_at "sq"), (by first | rfl | assumption), ?_⟩)
  | refine ⟨_, _, rfl, Or.inl ⟨(by walk_at "sq"), ?_⟩⟩
  | refine ⟨rfl, ?_⟩
  | refine iteT ?_
  | refine iteF ?_
  | refine ⟨_, _, _, _, _, rfl, (by assumption), (by assumption), (by assumption), (by assumption), ?_⟩
  | refine Or.inl ⟨_, rfl, ?_⟩
  | refine Or.inr ⟨_, rfl, ?_⟩
  | refine ⟨_, _, rfl, (by walk_at "side"), ?_⟩
  | refine ⟨_, _, rfl, ?_⟩)
local macro_rules | `(tactic| walk_at "fld") => `(tactic| skip)
local macro_rules | `(tactic| walk_at "s") => `(tactic| repeat walk_at "1")
local macro_rules | `(tactic| walk_at "size") => `(tactic| first | exact Nat.le_of_ble_eq_true rfl | (simp only [List.length_map, List.length_append, List.length_cons, List.length_nil]; omega))
local macro_rules | `(tactic| walk_at "new") => `(tactic| (first | refine ⟨(by walk_at "size"), fun p hp => ?_⟩ | refine fun p hp => ?_); (generalize hq : upd _ p _ = H1); (obtain ⟨s, e⟩ := new_facts hp hq); clear hq)
/-! nothings, _unlike -/
open Rw (ov)
theorem uniqO_snoc (y : Option Int) : ∀ (xs : List (Option Int)) (acc : List Int), uniqO (xs ++ [y]) acc = match y with
    | none => uniqO xs acc
    | some z => if z ∈ uniqO xs acc then uniqO xs acc else uniqO xs acc ++ [z]
  | [], acc => by cases y <;> rfl
  | none :: r, acc => uniqO_snoc y r acc
  | some x :: r, acc => uniqO_snoc y r _
theorem uniqO_len : ∀ (xs : List (Option Int)) (acc : List Int), (uniqO xs acc).length ≤ acc.length + xs.length
  | [], acc => Nat.le_refl _
  | none :: r, acc => by
    have := uniqO_len r acc
    show (uniqO r acc).length ≤ _
    rw [List.length_cons]
    omega
  | some x :: r, acc => by
    have := uniqO_len r (if x ∈ acc then acc else acc ++ [x])
    show (uniqO r _).length ≤ _
    rw [List.length_cons]
    refine Nat.le_trans this ?_
    split
    · omega
    · rw [List.length_append, List.length_singleton]
      omega
def uK (acc : List Int) : List (Key × V) := acc.map fun x => ((Sum.inl x : Key), V.bl true)
theorem uK_put (acc : List Int) (y : Int) : putK (uK acc) (Sum.inl y) (.bl true) = uK (if y ∈ acc then acc else acc ++ [y]) := by
  unfold putK uK
  by_cases h : y ∈ acc
  · rw [if_pos h, if_pos, List.map_map]
    · refine List.map_congr_left fun x _ => ?_
      show (if (Sum.inl x : Key) = Sum.inl y then ((Sum.inl x : Key), V.bl true) else (Sum.inl x, V.bl true)) = _
      split <;> rfl
    · rw [List.any_eq_true]
      exact ⟨_, List.mem_map.mpr ⟨y, h, rfl⟩, decide_eq_true rfl⟩
  · rw [if_neg h, if_neg, List.map_append]
    · rfl
    · intro z
      obtain ⟨kv, hk, e⟩ := List.any_eq_true.mp z
      obtain ⟨x, hx, rfl⟩ := List.mem_map.mp hk
      exact h (Sum.inl.inj (of_decide_eq_true e) ▸ hx)
theorem filter_none_snoc (xs : List (Option Int)) (x : Option Int) : (xs ++ [x]).filter (·.isNone) = if x.isNone = true then xs.filter (·.isNone) ++ [x] else xs.filter (·.isNone) := by
  rw [List.filter_append]
  cases x <;> simp
section
variable {P : Program} {w : World} {K : PySem.W.Frag} {mg : Str → Option Value} {base : Heap} {C D R : Addr}
abbrev s_nothings : Stmt := topS 30
theorem sc_nothings : FnScope ["row", "thing"] ["row"] (defScope s_nothings) := ⟨rfl, rfl, rfl, by decide +kernel, rfl, by decide +kernel, by decide +kernel⟩
theorem ok_nothings (F : Df K mg "nothings" s_nothings ["row"]) (T : Txt mg) (Z : Rw.RowCls K mg R) : Own P w K mg base "nothings" 1 ["row"] (spNothings R) := by
  refine F.own sc_nothings (fun vs H Q E h => ?_) (fun fa cdv A outer s H vs Q E hr h => ?_)
  · obtain ⟨_, _, _, _, rfl, _⟩ := h
    rfl
  · obtain ⟨p, f, a, m, rfl, ⟨dx, pf, pa, h1, h2, h3⟩, lf, k⟩ := h
    refine ⟨_, (pss_one (ps_ret (pe_callB call_len_seq (by rfl) T.len PySem.boot_len (pa_cons (pe_lc (own := [("thing", 1)]) (g := gName 1) (tt := (tTest (tOp _ (tVar 1) (tC .non)))) (te := tVar 1) rfl sc_nothings.nd (pi_tup (pe_fld (pv 0) rfl)) (blkOk_by (own := [("thing", 1)]) (N := ["row", "thing"]) (sc := defScope s_nothings) (by decide +kernel)) (fun _ _ _ _ _ => (pg_name (i := 1) sc_nothings.nd rfl (Or.inl rfl))) (fun _ _ _ _ _ => (pts_one (pt_cmpR op_isN (pv 1) pe_non (nomark _)))) (fun _ _ _ _ _ => (pv 1))) pa_nil)))), ?_⟩
    refine ⟨_, rfl, p, R, dx, _, _, rfl, h1, Z.cl, Z.nF, Rw.lk_first pf pa m, pf, rfl, ⟨_, SqT.of h2⟩, fun L nL => lc_seq (seqIt_t (SqT.of h2)) (fun i H' => Same H H' ∧ H' L = some (.lst (((f.take i).filter (·.isNone)).map ov))) ⟨same_upd nL, upd_same⟩ (fun i H' q => q.1) ?_ ?_⟩
    · rintro i x H1 hx ⟨s1, e1⟩
      rw [List.getElem?_map] at hx
      obtain ⟨y, hy, rfl⟩ := Option.map_eq_some_iff.mp hx
      have hi : i < f.length := (List.getElem?_eq_some_iff.mp hy).1
      have et : f.take (i + 1) = f.take i ++ [y] := by rw [List.take_add_one, hy]; rfl
      have sm : (((f.take i).filter (·.isNone)).map ov).length ≤ 500 := by
        rw [List.length_map]
        have := List.length_filter_le (fun x : Option Int => x.isNone) (f.take i)
        rw [List.length_take] at this
        omega
      refine ⟨rfl, ?_⟩
      cases y with
      | none =>
        refine ⟨_, rfl, rfl, _, rfl, ?_⟩
        rw [show decide (ov none = V.non) = true from rfl]
        refine iteT ?_
        refine ⟨_, rfl, _, e1, small2000 (by omega), fun c o e => ?_, ?_⟩
        · rw [upd_ne (ne_of_none e nL)]
          exact s1 c o e
        · rw [upd_same, et, filter_none_snoc]
          show _ = some (HO.lst (((f.take i).filter (fun x => Option.isNone x) ++ [none]).map ov))
          rw [List.map_append]
          rfl
      | some z =>
        refine ⟨_, rfl, rfl, _, rfl, ?_⟩
        rw [show decide (ov (some z) = V.non) = false from rfl]
        refine iteF ?_
        refine ⟨s1, ?_⟩
        rw [e1, et, filter_none_snoc]
        rfl
    · rintro H1 ⟨s1, e1⟩
      rw [List.length_map, List.take_length] at e1
      refine ⟨L, _, rfl, Or.inl (SqL.of e1), ?_⟩
      rw [List.length_map]
      exact k _ s1
abbrev s_unlike : Stmt := topS 47
theorem sc_unlike : FnScope ["things", "time"] ["things"] (defScope s_unlike) := ⟨rfl, rfl, rfl, by decide +kernel, rfl, by decide +kernel, by decide +kernel⟩
theorem ok_unlike (F : Df K mg "_unlike" s_unlike ["things"]) (T : Txt mg) : Own P w K mg base "_unlike" 1 ["things"] (spUnlike K) := by
  refine F.own sc_unlike (fun vs H Q E h => ?_) (fun fa cdv A outer s H vs Q E hr h => ?_)
  · obtain ⟨_, _, rfl, _⟩ := h
    rfl
  · obtain ⟨p, xs, rfl, hS, hl, k⟩ := h
    refine ⟨_, (pss_one (ps_ret (pe_callTy (call_list_dK rfl) (by rfl) T.list (by decide +kernel) (pa_cons (pe_dc (own := [("time", 1)]) (g := gName 1) (tt := (tTest (tOp _ (tVar 1) (tC .non)))) (tk := tVar 1) (tv := tC (.bl true)) rfl sc_unlike.nd (pi_tup (pv 0)) (blkOk_by (own := [("time", 1)]) (N := ["things", "time"]) (sc := defScope s_unlike) (by decide +kernel)) (fun _ _ _ _ _ => (pg_name (i := 1) sc_unlike.nd rfl (Or.inl rfl))) (fun _ _ _ _ _ => (pts_one (pt_cmpR op_notN (pv 1) pe_non (nomark _)))) (fun _ _ _ _ _ => (pv 1)) (fun _ _ _ _ _ => pe_bl)) pa_nil)))), ?_⟩
    refine ⟨_, rfl, p, rfl, ⟨_, hS⟩, fun L nL => ?_⟩
    refine dc_tup (K := K) (a := p) (xs := xs.map ov) (fun i H' => Same H H' ∧ H' L = some (.dK (uK (uniqO (xs.take i) [])))) ⟨same_upd nL, upd_same⟩ (fun i H' _ q => L2.Same.seqT q.1 hS) ?_ ?_
    · rintro i x H1 hx ⟨s1, e1⟩
      rw [List.getElem?_map] at hx
      obtain ⟨y, hy, rfl⟩ := Option.map_eq_some_iff.mp hx
      have hi : i < xs.length := (List.getElem?_eq_some_iff.mp hy).1
      have et : xs.take (i + 1) = xs.take i ++ [y] := by rw [List.take_add_one, hy]; rfl
      refine ⟨rfl, ?_⟩
      have sm : (uK (uniqO (xs.take i) [])).length ≤ 500 := by
        unfold uK
        rw [List.length_map]
        have := uniqO_len (xs.take i) []
        rw [List.length_take, List.length_nil] at this
        omega
      cases y with
      | none =>
        refine ⟨_, rfl, rfl, _, rfl, ?_⟩
        rw [show (!decide (ov none = V.non)) = false from rfl]
        refine iteF ?_
        refine ⟨s1, ?_⟩
        rw [e1, et, uniqO_snoc]
      | some z =>
        refine ⟨_, rfl, rfl, _, rfl, ?_⟩
        rw [show (!decide (ov (some z) = V.non)) = true from rfl]
        refine iteT ?_
        refine ⟨_, rfl, _, Sum.inl z, rfl, e1, small2000 (by omega), fun c o e => ?_, ?_⟩
        · rw [upd_ne (ne_of_none e nL)]
          exact s1 c o e
        · rw [upd_same, et, uniqO_snoc, uK_put]
    · rintro H1 ⟨s1, e1⟩
      rw [List.length_map, List.take_length] at e1
      refine ⟨L, _, rfl, e1, fun q nq => ?_⟩
      refine k _ q (s1.trans (same_upd nq)) (s1.free nq) ?_
      rw [upd_same]
      unfold uK
      rw [List.map_map]
      rfl
end
end My

set_option linter.all false
/-! a method that is called with keywords alone -/
namespace My
open PySem PySem.Spec PyProof.Rows L2
/-- o.m(k = v, ..): what is read, n the number of keywords -/
def tMethK (C : Addr) (m : Str) (n : Nat) (sp : Sp) (gV : List V → List V → List V) (E : XK)
    (ta : TE) (tk : TA) : TE := fun σ H Q =>
  ta σ H fun self H1 =>
    ∃ (o od : Addr) (own : List (Str × V)), self = .ref o ∧ H1 o = some (.ins C od own) ∧ own.lookup m = none ∧
      tk σ H1 fun given H2 => given.length = n ∧ sp (gV [self] given) H2 Q E
section
variable {X : Cx} {CX : CXT} {lv n : Nat} {f C : Addr} {fd : FuncData} {ps ks : List Str} {sp : Sp} {E : XK}
  {m : Str} {pos apos : Pos} {o : Expr} {kws : List Keyword} {ta : TE} {tk : TA}
  {g : List Value → List Value → List Value} {gV : List V → List V → List V}
/-- a def called with n values and keywords -/
theorem run_fnKBn {pins : List (Addr × Obj)} {σ : L2.St} {H : Hp} {s : Shared} {Q : VK} {us ws : List Value} {vs zs : List V}
    (F : FnOk X.prog X.w X.K X.mg X.base CX lv f fd ps sp) (room : Room lv X.A) (kb : KBn X.K fd ps n ks g gV) (hx : Passes CX X E)
    (I : Inv X pins σ H s) (r : Vals vs us) (rz : Vals zs ws) (len1 : vs.length = n) (len2 : zs.length = ks.length)
    (got : sp (gV vs zs) H Q E) :
    wpAny (model X.prog X.w) X.A (call (.ref f) us (ks.zip ws)) (EP X pins σ Q) X.xe s := by
  have n1 : us.length = n := r.length ▸ len1
  have n2 : ws.length = ks.length := rz.length ▸ len2
  have run := F.run X.A X.stack s H ⟨us, ks.zip ws⟩ (g us ws) (gV vs zs) Q E room I.env0 (kb.to s us ws I.kIn n1 n2) (kb.rel r rz) got
  refine wpAny_call (codeAny_mono run ?_)
  intro res s' q
  match res, q with
  | .error e, q => exact hx pins σ H s e s' I q
  | .ok (.ret _), q => exact I.after q
  | .ok .next, q => exact q.elim
  | .ok .brk, q => exact q.elim
  | .ok .cont, q => exact q.elim
/-- o.m(k = v, ..) -/
theorem pe_methK0 {pl : Sem Bool} (ho : PE X o ta) (c : Cls X.K C) (hm : Meth X.K C m f)
    (F : FnOk X.prog X.w X.K X.mg X.base CX lv f fd ps sp) (room : Room lv X.A) (kb : KBn X.K fd ps 1 ks g gV)
    (hx : Passes CX X E) (hkw : PK X kws tk)
    (named : (backToKw pos (keywordEach kws X.env)).all (·.1.isSome) = true := by rfl)
    (names : (backToKw pos (keywordEach kws X.env)).filterMap (·.1) = ks := by rfl)
    (plain : ((backTo pos (starEach [] X.env)).any (·.1) || (backToKw pos (keywordEach kws X.env)).any (·.1.isNone)) = false := by rfl)
    (ht : eval (.Call (.Attribute o m apos) [] kws pos) X.env = (do
      let w ← eval o X.env
      standAt apos.atName
      let (fn, one) ← holding [w] (getMethod w m pl)
      callWith pos fn one (backTo pos (starEach [] X.env)) (backToKw pos (keywordEach kws X.env))) := by rfl) :
    PE X (.Call (.Attribute o m apos) [] kws pos) (tMethK C m ks.length sp gV E ta tk) := by
  constructor
  intro pins s σ H Q I read
  apply PySem.W.methodCall_KW (pl := pl) (he := ht)
  apply thn (ho.run pins s σ H _ I read)
  rintro u s1 ⟨x, H1, I1, rx, a, od, own, rfl, at_, none_, rest⟩
  obtain rfl : u = Value.ref a := rx
  apply getmeth_ok I1 at_ c hm none_
  apply PySem.W.callWith_KW0 (h₀ := X.base) (first := [.ref a]) I1.ok.mod.kin hm.kp named ?_ plain
  apply thn (hkw.run pos pins s1 σ H1 _ I1 rest)
  rintro ws s2 ⟨zs, H2, I2, rz, l2, got⟩
  refine ⟨I2.kIn, ?_⟩
  rw [names]
  exact run_fnKBn (us := [.ref a]) (vs := [.ref a]) F room kb hx I2 (.cons rfl .nil) rz rfl l2 got
end
/-! ## a def without defaults that is called by keywords -/
section
variable {K : PySem.W.Frag} {x qual : Str} {st : Stmt} {f : Addr} {fd : FuncData} {ps ks : List Str} {n : Nat}
theorem kbn_of (F : L2.Fun K x qual st f fd) (g : {α : Type} → List α → List α → List α)
    (alike : ∀ {vs zs : List V} {us ws : List Value}, Vals vs us → Vals zs ws → Vals (g vs zs) (g us ws))
    (bind : ∀ (kV doc pm : Value) (an : Option Addr) (cdv ct : Value) (us ws : List Value), us.length = n → ws.length = ks.length →
      bindArgs (PySem.W.fnOf x qual (defArgs st) (defBody st) (defScope st) .none kV doc pm an cdv ct) ⟨us, ks.zip ws⟩ = pure (ps.zip (g us ws))) :
    KBn K fd ps n ks (fun us ws => g us ws) (fun vs zs => g vs zs) := by
  obtain ⟨oc, od, kV, doc, pm, an, cdv, ct, osl, rfl, _, _⟩ := F.ex
  exact ⟨fun s us ws _ l1 l2 => .of_eq (bind kV doc pm an cdv ct us ws l1 l2), fun a b => alike a b⟩
theorem vals_rev {vs : List V} {us : List Value} (h : Vals vs us) : Vals vs.reverse us.reverse := by
  induction h with
  | nil => exact .nil
  | cons a _ ih =>
    rw [List.reverse_cons, List.reverse_cons]
    exact ih.append (.cons a .nil)
/-- keywords in the order of the parameters -/
theorem kbn_fwd (F : L2.Fun K x qual st f fd)
    (bind : ∀ (kV doc pm : Value) (an : Option Addr) (cdv ct : Value) (us ws : List Value), us.length = n → ws.length = ks.length →
      bindArgs (PySem.W.fnOf x qual (defArgs st) (defBody st) (defScope st) .none kV doc pm an cdv ct) ⟨us, ks.zip ws⟩ = pure (ps.zip (us ++ ws))) :
    KBn K fd ps n ks (fun us ws => us ++ ws) (fun vs zs => vs ++ zs) :=
  kbn_of F (fun a b => a ++ b) (fun a b => a.append b) bind
/-- keywords from the last parameter to the first -/
theorem kbn_back (F : L2.Fun K x qual st f fd)
    (bind : ∀ (kV doc pm : Value) (an : Option Addr) (cdv ct : Value) (us ws : List Value), us.length = n → ws.length = ks.length →
      bindArgs (PySem.W.fnOf x qual (defArgs st) (defBody st) (defScope st) .none kV doc pm an cdv ct) ⟨us, ks.zip ws⟩ = pure (ps.zip (us ++ ws.reverse))) :
    KBn K fd ps n ks (fun us ws => us ++ ws.reverse) (fun vs zs => vs ++ zs.reverse) :=
  kbn_of F (fun a b => a ++ b.reverse) (fun a b => a.append (vals_rev b)) bind
end
end My

set_option linter.all false
/-! a def that is called with keywords alone -/
namespace My
open PySem PySem.Spec PyProof.Rows L2
/-- f(k = v, ..): what is read, n the number of keywords -/
def tCallK0 (n : Nat) (sp : Sp) (gV : List V → List V → List V) (E : XK) (tk : TA) : TE := fun σ H Q => tk σ H fun given H1 => given.length = n ∧ sp (gV [] given) H1 Q E
theorem pe_callK0 {X : Cx} {CX : CXT} {lv : Nat} {f : Addr} {fd : FuncData} {ps ks : List Str} {sp : Sp} {E : XK} {x : Str} {p pos : Pos} {kws : List Keyword} {tk : TA} {g : List Value → List Value → List Value} {gV : List V → List V → List V}
    (F : FnOk X.prog X.w X.K X.mg X.base CX lv f fd ps sp) (room : Room lv X.A) (hg : Gl X x) (hm : X.mg x = some (.ref f)) (kept : PySem.W.keepIn X.K (.ref f) = true) (kb : KBn X.K fd ps 0 ks g gV) (hx : Passes CX X E) (hkw : PK X kws tk)
    (named : (backToKw pos (keywordEach kws X.env)).all (·.1.isSome) = true := by rfl)
    (names : (backToKw pos (keywordEach kws X.env)).filterMap (·.1) = ks := by rfl) (hdb : (x == ("__debug__" : Str)) = false := by decide)
    (plain : ((backTo pos (starEach [] X.env)).any (·.1) || (backToKw pos (keywordEach kws X.env)).any (·.1.isNone)) = false := by rfl) :
    PE X (.Call (.Name x p) [] kws pos) (tCallK0 ks.length sp gV E tk) := by
  constructor
  intro pins s σ H Q I read
  apply wpAny_Call_Name_kw
  refine ld_glob I hg hm ?_ hdb
  apply PySem.W.callWith_KW0 (h₀ := X.base) I.ok.mod.kin kept named ?_ plain
  apply thn (hkw.run pos pins s σ H _ I read)
  rintro ws s2 ⟨zs, H2, I2, rz, l2, got⟩
  refine ⟨I2.kIn, ?_⟩
  rw [names]
  exact run_fnKBn (us := []) (vs := []) F room kb hx I2 .nil rz rfl l2 got
/-- a def's promise, with the def -/
structure OwnF (P : Program) (w : World) (K : PySem.W.Frag) (mg : Str → Option Value) (base : Heap) (x : Str) (st : Stmt) (k : Nat) (ps : List Str) (sp : Sp) : Prop where
  ex : ∃ f fd, Fun K x x st f fd ∧ FnOk P w K mg base CX0 k f fd ps sp ∧ mg x = some (.ref f) ∧ Binds K fd ps []
section
variable {P : Program} {w : World} {K : PySem.W.Frag} {mg : Str → Option Value} {base : Heap}
theorem Df.ownF {x : Str} {st : Stmt} {ps N : List Str} {k : Nat} {sp : Sp} (D : Df K mg x st ps) (S : FnScope N ps (defScope st)) (len : ∀ vs H Q E, sp vs H Q E → vs.length = ps.length)
    (hbody : ∀ (f : Addr) (cdv : Value) (A : Around) (outer : List Env) (s : Shared) (H : Hp) (vs : List V) (Q : VK) (E : XK), Room k (A.deeper (envOfC x (defScope st) s.heap.objs.size f cdv)) → sp vs H Q E →
      ∃ t, PSs (cxOf CX0 P w K mg base N x (defScope st) f cdv A outer s H E).nox (defBody st) t ∧ t { nx := fun _ H' => Q .non H', rt := Q } (start N vs) H) : OwnF P w K mg base x st (k + 1) ps sp := by
  obtain ⟨f, fd, F, m, b⟩ := D.ex
  exact ⟨f, fd, F, F.ok S len (hbody f), m, b⟩
theorem OwnF.own {x : Str} {st : Stmt} {ps : List Str} {k : Nat} {sp : Sp} (O : OwnF P w K mg base x st k ps sp) : Own P w K mg base x k ps sp := by
  obtain ⟨f, fd, F, G, m, b⟩ := O.ex
  exact ⟨f, fd, G, m, F.kp, b⟩
end
/-- f(k = v), f a def of one parameter -/
theorem pe_ownK {X : Cx} {x a : Str} {st : Stmt} {p pos : Pos} {kws : List Keyword} {tk : TA} {k : Nat} {sp : Sp} (O : OwnF X.prog X.w X.K X.mg X.base x st k [a] sp) (hr : Room k X.A)
    (bind : ∀ (kV doc pm : Value) (an : Option Addr) (cdv ct v : Value), bindArgs (PySem.W.fnOf x x (defArgs st) (defBody st) (defScope st) .none kV doc pm an cdv ct) ⟨[], [a].zip [v]⟩ = pure ([a].zip [v])) (hkw : PK X kws tk) (hg : Gl X x := by exact rfl)
    (named : (backToKw pos (keywordEach kws X.env)).all (·.1.isSome) = true := by rfl)
    (names : (backToKw pos (keywordEach kws X.env)).filterMap (·.1) = [a] := by rfl) (hdb : (x == ("__debug__" : Str)) = false := by decide)
    (plain : ((backTo pos (starEach [] X.env)).any (·.1) || (backToKw pos (keywordEach kws X.env)).any (·.1.isNone)) = false := by rfl) :
    PE X (.Call (.Name x p) [] kws pos) (tCallK0 1 sp (fun vs zs => vs ++ zs) E0 tk) := by
  obtain ⟨f, fd, F, G, m, b⟩ := O.ex
  have kb : KBn X.K fd [a] 0 [a] (fun us ws => us ++ ws) (fun vs zs => vs ++ zs) := kbn_fwd F fun kV doc pm an cdv ct us ws l1 l2 => by
    match us, l1, ws, l2 with
    | [], _, [v], _ => exact bind kV doc pm an cdv ct v
  exact pe_callK0 G hr hg m F.kp kb pass0 hkw named names hdb plain
end My

namespace My
open PySem PySem.Spec PyProof.Rows L2
local macro_rules | `(tactic| walk_at "side") => `(tactic| first | (dsimp only; omega) | exact ⟨by omega, by omega⟩ | exact Or.inl ⟨by omega, by omega⟩ | exact Or.inr ⟨by omega, by omega⟩ | decide)
local macro_rules | `(tactic| walk_at "sq") => `(tactic| first | assumption | exact SqL.of (by assumption) | exact SqT.of (by assumption) | (refine L2.Same.seq (by assumption) ?_; walk_at "sq") | (refine L2.Same.seqT (by assumption) ?_; walk_at "sq") | exact Or.inl (by walk_at "sq") | exact Or.inr (by walk_at "sq"))
local macro_rules | `(tactic| walk_at "1") => `(tactic| first
  | refine ⟨_, rfl, iteT ?_⟩
  | refine ⟨_, rfl, iteF ?_⟩
  | refine ⟨_, rfl, ?_⟩
  | refine ⟨_, _, rfl, rfl, (by walk_at "side"), ?_⟩
  | refine ⟨_, _, rfl, rfl, ?_⟩
  | refine ⟨_, _, _, _, true, rfl, .ty _, .base (.int _), kit_ty (a := "int") (by decide +kernel), ?_⟩
  | refine ⟨_, _, _, _, false, rfl, .ty _, .base (.int _), kit_ty (a := "int") (by decide +kernel), ?_⟩
  | refine ⟨_, _, rfl, (by walk_at "sq"), ?_⟩
  | refine ⟨_, _, _, _, rfl, rfl, (by walk_at "sq"), (by first | rfl | assumption), ?_⟩
  | refine Or.inl ⟨_, _, _, _, rfl, rfl, (by walk_at "sq"), (by first | rfl | assumption), ?_⟩
  | refine Or.inr (Or.inl ⟨_, _, _, _, rfl, rfl, (by walk_at "sq"), (by first | rfl | assumption), ?_⟩)
  | refine ⟨_, _, rfl, Or.inl ⟨(by walk_at "sq"), ?_⟩⟩
  | refine ⟨rfl, ?_⟩
  | refine iteT ?_
  | refine iteF ?_
  | refine ⟨_, _, _, _, _, rfl, (by assumption), (by assumption), (by assumption), (by assumption), ?_⟩
  | refine Or.inl ⟨_, rfl, ?_⟩
  | refine Or.inr ⟨_, rfl, ?_⟩
  | refine ⟨_, _, rfl, (by walk_at "side"), ?_⟩
  | refine ⟨_, _, rfl, ?_⟩)
local macro_rules | `(tactic| walk_at "fld") => `(tactic| skip)
local macro_rules | `(tactic| walk_at "s") => `(tactic| repeat walk_at "1")
local macro_rules | `(tactic| walk_at "size") => `(tactic| first | exact Nat.le_of_ble_eq_true rfl | (simp only [List.length_map, List.length_append, List.length_cons, List.length_nil]; omega))
local macro_rules | `(tactic| walk_at "new") => `(tactic| (first | refine ⟨(by walk_at "size"), fun p hp => ?_⟩ | refine fun p hp => ?_); (generalize hq : upd _ p _ = H1); (obtain ⟨s, e⟩ := new_facts hp hq); clear hq)
/-! the tally of a row -/
open Rw (ov)
def stepsF (f a : List (Option Int)) (m s : Int) : List Stp := ((uniqO f []).filter fun t => decide (t < s)).map fun t => (t, Rw.cntR f a m t)
def cntZ (f a : List (Option Int)) (m t : Int) : Int := (Rw.cntR f a m t).getD 0
def stepsA (f a : List (Option Int)) (m s : Int) : List Sti := ((uniqO a []).filter fun t => decide (t < s + m)).map fun t => (t, cntZ f a m t)
/-- the tally of a row: what is asked, what comes -/
def spTally (R C : Addr) : Sp := fun vs H Q _ => ∃ (p : Addr) (f a : List (Option Int)) (m : Int), vs = [.ref p] ∧ Rw.RowAt R H p f a m ∧ Rw.Parts f a m ∧ (Rw.gt a 0 ≠ none → ∀ x ∈ a, x ≠ none) ∧
  (Rw.gt a 0 = none → ∀ H' q, Same H H' → H q = none → TalAt C H' q none [] [] 0 0 → Q (.ref q) H') ∧
  (∀ s, Rw.gt a 0 = some s → m = 0 → TalIn (some (nonesN f : Nat)) (stepsF f a m s ++ [(s, none)]) [] 0 0 ∧ ∀ H' q f' a' t' m', Same H H' → H q = none → MadeT (stepsF f a m s ++ [(s, none)]) [] 0 0 f' a' t' m' → TalAt C H' q (some (nonesN f : Nat)) f' a' t' m' → Q (.ref q) H') ∧
  (∀ s, Rw.gt a 0 = some s → m ≠ 0 → (∀ t, Rw.cntR f a m t ≠ none) ∧ TalIn (some (nonesN f : Nat)) (stepsF f a m s) (stepsA f a m s) m a.length ∧ ∀ H' q f' a' t' m', Same H H' → H q = none → MadeT (stepsF f a m s) (stepsA f a m s) m a.length f' a' t' m' → TalAt C H' q (some (nonesN f : Nat)) f' a' t' m' → Q (.ref q) H')
theorem filt_snoc {p : Int → Bool} {xs : List Int} {x : Int} : (xs ++ [x]).filter p = if p x = true then xs.filter p ++ [x] else xs.filter p := by
  rw [List.filter_append]
  by_cases e : p x = true
  · rw [if_pos e, List.filter_cons_of_pos e]
    rfl
  · rw [if_neg e, List.filter_cons_of_neg e, List.filter_nil, List.append_nil]
/-- a list of steps, its pairs elsewhere -/
def StpsAt (H : Hp) (L : Addr) (ss : List Stp) : Prop := ∃ xs, H L = some (.lst xs) ∧ DvAll (off L H) xs (ss.map stD)
theorem StpsAt.same {H H' : Hp} {L : Addr} {ss : List Stp} (h : StpsAt H L ss) (s : Same H H') : StpsAt H' L ss := by
  obtain ⟨xs, e, d⟩ := h
  exact ⟨xs, s _ _ e, d.same (off_off s)⟩
theorem StpsAt.len {H : Hp} {L : Addr} {ss : List Stp} {xs : List V} (h : StpsAt H L ss) (e : H L = some (.lst xs)) : xs.length = ss.length := by
  obtain ⟨ys, e', d⟩ := h
  rw [e] at e'
  cases e'
  rw [d.len, List.length_map]
theorem StpsAt.put {H : Hp} {L q : Addr} {ss : List Stp} {x : Stp} (h : StpsAt H L ss) (nq : H q = none) : ∃ xs, upd H q (.tup [.int x.1, cV x.2]) L = some (.lst xs) ∧ xs.length = ss.length ∧ StpsAt (upd (upd H q (.tup [.int x.1, cV x.2])) L (.lst (xs ++ [.ref q]))) L (ss ++ [x]) := by
  obtain ⟨xs, e, d⟩ := h
  have qL : q ≠ L := fun z => by rw [z, e] at nq; cases nq
  refine ⟨xs, by rw [upd_ne qL.symm]; exact e, by rw [d.len, List.length_map], xs ++ [.ref q], upd_same, ?_⟩
  rw [off_upd, off_upd_ne qL, List.map_append]
  exact (d.same (same_upd (off_none nq))).app (.cons (pr_dv (x := prO x) upd_same) .nil)
section
variable {P : Program} {w : World} {K : PySem.W.Frag} {mg : Str → Option Value} {base : Heap} {C D R : Addr}
abbrev s_tally : Stmt := topS 46
theorem sc_tally : FnScope ["row", "start", "first", "again", "time"] ["row"] (defScope s_tally) := ⟨rfl, rfl, rfl, by decide +kernel, rfl, by decide +kernel, by decide +kernel⟩
set_option maxHeartbeats 8000000 in
theorem ok_tally (F : Df K mg "tally" s_tally ["row"]) (T : Txt mg) (Z : Rw.RowCls K mg R) (M : TalMk P w K mg base C D) (o_is_empty : Own P w K mg base "is_empty" 1 ["row"] (Rw.spIsEmpty R)) (o_endless : Own P w K mg base "endless" 7 [] (spEndless C)) (o_unlike : Own P w K mg base "_unlike" 1 ["things"] (spUnlike K)) (o_nothings : Own P w K mg base "nothings" 1 ["row"] (spNothings R))
    (o_count : Mth P w K mg base R "count" 2 ["self", "time"] (Rw.spCount R)) : OwnF P w K mg base "tally" s_tally 8 ["row"] (spTally R C) := by
  refine F.ownF sc_tally (fun vs H Q E h => ?_) (fun fa cdv A outer s H vs Q E hr h => ?_)
  · obtain ⟨_, _, _, _, rfl, _⟩ := h
    rfl
  · obtain ⟨p, f, a, m, rfl, hR, ok, hall, k0, k1, k2⟩ := h
    obtain ⟨dx, pf, pa, h1, h2, h3⟩ := id hR
    refine ⟨_, (pss_cons (ps_if (pt_val (pe_own o_is_empty (hr.mono (by decide)) (pa_cons (pv 0) pa_nil)))
    (pss_one (ps_ret (pe_own0 o_endless (hr.mono (by decide)))))
    pss_nil)
  (pss_cons (ps_set (i := 1) sc_tally.nd rfl (Or.inr rfl) (pe_ix ix_tup (pe_fld (pv 0) rfl) pe_int (fun _ _ => rfl)))
  (pss_cons (ps_setLc (i := 2) (own := [("time", 4)]) (g := gName 4) (tt := (tTest (tOp _ (tVar 4) (tVar 1)))) (te := tTup (tCons (tVar 4) (tCons (tMeth R "count" (Rw.spCount R) [] E0 (tVar 0) (tCons (tVar 4) tNil)) tNil))) rfl sc_tally.nd rfl rfl (sw_true rfl rfl rfl (by decide +kernel)) (pi_list (pe_own o_unlike (hr.mono (by decide)) (pa_cons (pe_fld (pv 0) rfl) pa_nil))) (blkOk_by (own := [("time", 4)]) (N := ["row", "start", "first", "again", "time"]) (sc := defScope s_tally) (by decide +kernel)) (fun _ _ _ _ _ => (pg_name (i := 4) sc_tally.nd rfl (Or.inl rfl))) (fun _ _ _ _ _ => (pts_one (pt_cmpR op_lt (pv 4) (pv 1) (nomark _)))) (fun _ _ _ _ _ => (pe_tup (pa_cons (pv 4) (pa_cons (pe_mth Z.cl o_count (hr.mono (by decide)) (pv 0) (pa_cons (pv 4) pa_nil)) pa_nil)))))
  (pss_cons (ps_if (pt_cmpR op_eq (pe_fld (pv 0) rfl) pe_int (nomark _))
    (pss_one (ps_ret (pe_tal M (hr.mono (by decide)) (pa_cons (pe_own o_nothings (hr.mono (by decide)) (pa_cons (pv 0) pa_nil)) (pa_cons (pe_lst (StX.pa_star (pv 2) (pa_cons (pe_tup (pa_cons (pv 1) (pa_cons pe_non pa_nil))) pa_nil))) (pa_cons (pe_tup pa_nil) (pa_cons pe_int (pa_cons pe_int pa_nil))))))))
    pss_nil)
  (pss_cons (ps_setLc (i := 3) (own := [("time", 4)]) (g := gName 4) (tt := (tTest (tOp _ (tVar 4) (tOp _ (tVar 1) (tFld K (tVar 0) "more"))))) (te := tTup (tCons (tVar 4) (tCons (tMeth R "count" (Rw.spCount R) [] E0 (tVar 0) (tCons (tVar 4) tNil)) tNil))) rfl sc_tally.nd rfl rfl (sw_true rfl rfl rfl (by decide +kernel)) (pi_list (pe_own o_unlike (hr.mono (by decide)) (pa_cons (pe_fld (pv 0) rfl) pa_nil))) (blkOk_by (own := [("time", 4)]) (N := ["row", "start", "first", "again", "time"]) (sc := defScope s_tally) (by decide +kernel)) (fun _ _ _ _ _ => (pg_name (i := 4) sc_tally.nd rfl (Or.inl rfl))) (fun _ _ _ _ _ => (pts_one (pt_cmpR op_lt (pv 4) (pe_op op_add (pv 1) (pe_fld (pv 0) rfl)) (nomark _)))) (fun _ _ _ _ _ => (pe_tup (pa_cons (pv 4) (pa_cons (pe_mth Z.cl o_count (hr.mono (by decide)) (pv 0) (pa_cons (pv 4) pa_nil)) pa_nil)))))
  (pss_one (ps_ret (pe_tal M (hr.mono (by decide)) (pa_cons (pe_own o_nothings (hr.mono (by decide)) (pa_cons (pv 0) pa_nil)) (pa_cons (pv 2) (pa_cons (pv 3) (pa_cons (pe_fld (pv 0) rfl) (pa_cons (pe_callB call_len_seq (by rfl) T.len PySem.boot_len (pa_cons (pe_fld (pv 0) rfl) pa_nil)) pa_nil))))))))))))), ?_⟩
    have cl := Z.cl
    have nF := Z.nF
    have nA := Z.nA
    have nM := Z.nM
    have lkM := Rw.lk_more pf pa m
    have lkF := Rw.lk_first pf pa m
    have lkA := Rw.lk_again pf pa m
    have l0 := List.length_pos_iff.mpr ok.ne
    have l1 := ok.la
    have l2 := ok.lf
    have h0 : atI (a.map ov) 0 = some (ov (Rw.gt a 0)) := atI_nat (j := 0) (Rw.gt_of l0)
    refine ⟨_, rfl, p, f, a, m, rfl, hR, ok.ne, ?_⟩
    cases hg : Rw.gt a 0 with
    | none =>
      refine ⟨_, rfl, ?_⟩
      refine iteT ?_
      exact ⟨rfl, fun H' q s' n' t' => k0 hg H' q s' n' t'⟩
    | some st =>
      refine ⟨_, rfl, ?_⟩
      refine iteF ?_
      rw [hg] at h0
      refine ⟨_, rfl, p, R, dx, _, _, rfl, h1, cl, nA, lkA, pa, _, 0, _, rfl, rfl, SqT.of h3, h0, ?_⟩
      refine ⟨_, rfl, p, R, dx, _, _, rfl, h1, cl, nF, lkF, pf, f, rfl, SqT.of h2, l2, fun H1 U s1 nU eU => ⟨U, rfl, ⟨_, SqL.of eU⟩, fun L nL => lc_seq (seqIt_l (SqL.of eU)) (fun i H' => Same H1 H' ∧ StpsAt H' L ((((uniqO f []).take i).filter fun t => decide (t < st)).map fun t => (t, Rw.cntR f a m t))) ⟨same_upd nL, [], upd_same, .nil⟩ (fun i H' q => q.1) ?_ ?_⟩⟩
      · rintro i x H2 hx ⟨s2, e2⟩
        rw [List.getElem?_map] at hx
        obtain ⟨t, ht, rfl⟩ := Option.map_eq_some_iff.mp hx
        have hi := (List.getElem?_eq_some_iff.mp ht).1
        have ul := uniqO_len f []
        rw [List.length_nil] at ul
        have et : (uniqO f []).take (i + 1) = (uniqO f []).take i ++ [t] := by rw [List.take_add_one, ht]; rfl
        rw [et, filt_snoc]
        refine ⟨rfl, _, rfl, _, rfl, _, _, rfl, rfl, _, rfl, ?_⟩
        by_cases c : t < st
        · rw [decide_eq_true c, if_pos rfl]
          refine iteT ?_
          refine ⟨_, rfl, _, rfl, p, dx, _, rfl, s2 _ _ (s1 _ _ h1), rfl, _, rfl, p, f, a, m, t, rfl, (s1.trans s2).row hR, ok, hall, fun H3 s3 => ⟨Nat.le_of_ble_eq_true rfl, fun q nq => ?_⟩⟩
          rw [ov_cV]
          obtain ⟨xs, e3, lx, e4⟩ := (e2.same s3).put (x := (t, Rw.cntR f a m t)) nq
          refine ⟨xs, e3, small2000 ?_, fun c o e => ?_, ?_⟩
          · rw [lx, List.length_map]
            have := List.length_filter_le (fun t => decide (t < st)) ((uniqO f []).take i)
            rw [List.length_take] at this
            omega
          · rw [upd_ne (ne_of_none e nL), upd_ne (ne_of_none (s3 _ _ (s2 _ _ e)) nq)]
            exact s3 _ _ (s2 _ _ e)
          · rw [List.map_append]
            exact e4
        · rw [decide_eq_false c, if_neg (by decide)]
          refine iteF ?_
          exact ⟨s2, e2⟩
      · rintro H2 ⟨s2, e2⟩
        rw [List.length_map, List.take_length] at e2
        have e2 : StpsAt H2 L (stepsF f a m st) := e2
        have s02 := s1.trans s2
        have nL0 : H L = none := s1.free nL
        have ul := uniqO_len f []
        rw [List.length_nil] at ul
        have lenF : (stepsF f a m st).length ≤ 500 := by
          unfold stepsF
          rw [List.length_map]
          have := List.length_filter_le (fun t => decide (t < st)) (uniqO f [])
          omega
        refine ⟨_, rfl, p, R, dx, _, _, rfl, s02 _ _ h1, cl, nM, lkM, rfl, _, rfl, ?_⟩
        by_cases hm : m = 0
        · rw [decide_eq_true (by rw [hm])]
          refine iteT ?_
          obtain ⟨W, kk⟩ := k1 st hg hm
          refine ⟨_, rfl, p, f, a, m, rfl, s02.row hR, l2, fun H3 s3 => ?_⟩
          obtain ⟨xs, e3, d3⟩ := e2.same s3
          have lx := d3.len
          rw [List.length_map] at lx
          refine ⟨_, rfl, L, xs, rfl, Or.inr (SqL.of e3), _, rfl, Nat.le_of_ble_eq_true rfl, fun q nq => ⟨?_, fun r nr => ⟨Nat.zero_le _, fun z nz => ?_⟩⟩⟩
          · rw [List.length_append, List.length_singleton]
            exact Nat.le_of_lt (small2000 (by omega))
          generalize hq : upd H3 q _ = H4 at *
          obtain ⟨s4, e4⟩ := new_facts nq hq
          clear hq
          generalize hq : upd H4 r _ = H5 at *
          obtain ⟨s5, e5⟩ := new_facts nr hq
          clear hq
          generalize hq : upd H5 z _ = H6 at *
          obtain ⟨s6, e6⟩ := new_facts nz hq
          clear hq
          have s36 := s4.trans (s5.trans s6)
          have s06 := s02.trans (s3.trans s36)
          refine rd_tal (u := some (nonesN f : Nat)) (fs := stepsF f a m st ++ [(st, none)]) (as := []) (t := 0) (m := 0) (d1 := .list ((stepsF f a m st ++ [(st, none)]).map stD)) (d2 := .tuple []) (.lst (s6 _ _ e5) ?_ ?_) rfl rfl (.tup e6 .nil (by decide)) rfl rfl ?_ (by decide) W fun H' g f' a' t' m' s' n' M' T' => kk H' g f' a' t' m' (s06.trans s') (s06.free n') M' T'
          · rw [List.map_append]
            exact (d3.same (off_same.trans s36)).app (.cons (pr_dv (x := prO (st, none)) (s6 _ _ (s5 _ _ e4))) .nil)
          · rw [List.length_map, List.length_append, List.length_singleton]
            omega
          · rw [List.length_append, List.length_singleton]
            omega
        · rw [decide_eq_false (fun z => hm (V.int.inj z))]
          refine iteF ?_
          obtain ⟨hc, W, kk⟩ := k2 st hg hm
          have ulA := uniqO_len a []
          rw [List.length_nil] at ulA
          have hR2 := s02.row hR
          refine ⟨_, rfl, p, R, dx, _, _, rfl, s02 _ _ h1, cl, nA, lkA, pa, a, rfl, SqT.of (s02 _ _ h3), l1, fun H3 U2 s3 nU2 eU2 => ⟨U2, rfl, ⟨_, SqL.of eU2⟩, fun B nB => lc_seq (seqIt_l (SqL.of eU2)) (fun i H' => Same H3 H' ∧ StpsAt H' B ((((uniqO a []).take i).filter fun t => decide (t < st + m)).map fun t => (t, Rw.cntR f a m t))) ⟨same_upd nB, [], upd_same, .nil⟩ (fun i H' q => q.1) ?_ ?_⟩⟩
          · rintro i x H4 hx ⟨s4, e4⟩
            rw [List.getElem?_map] at hx
            obtain ⟨t, ht, rfl⟩ := Option.map_eq_some_iff.mp hx
            have hi := (List.getElem?_eq_some_iff.mp ht).1
            have et : (uniqO a []).take (i + 1) = (uniqO a []).take i ++ [t] := by rw [List.take_add_one, ht]; rfl
            rw [et, filt_snoc]
            have s04 := s02.trans (s3.trans s4)
            refine ⟨rfl, _, rfl, _, rfl, _, rfl, p, R, dx, _, _, rfl, s04 _ _ h1, cl, nM, lkM, _, _, rfl, rfl, _, _, rfl, rfl, _, rfl, ?_⟩
            by_cases c : t < st + m
            · rw [decide_eq_true c, if_pos rfl]
              refine iteT ?_
              refine ⟨_, rfl, _, rfl, p, dx, _, rfl, s04 _ _ h1, rfl, _, rfl, p, f, a, m, t, rfl, s04.row hR, ok, hall, fun H5 s5 => ⟨Nat.le_of_ble_eq_true rfl, fun q nq => ?_⟩⟩
              rw [ov_cV]
              obtain ⟨xs, e5, lx, e6⟩ := (e4.same s5).put (x := (t, Rw.cntR f a m t)) nq
              refine ⟨xs, e5, small2000 ?_, fun c o e => ?_, ?_⟩
              · rw [lx, List.length_map]
                have := List.length_filter_le (fun t => decide (t < st + m)) ((uniqO a []).take i)
                rw [List.length_take] at this
                omega
              · rw [upd_ne (ne_of_none e nB), upd_ne (ne_of_none (s5 _ _ (s4 _ _ e)) nq)]
                exact s5 _ _ (s4 _ _ e)
              · rw [List.map_append]
                exact e6
            · rw [decide_eq_false c, if_neg (by decide)]
              refine iteF ?_
              exact ⟨s4, e4⟩
          · rintro H4 ⟨s4, e4⟩
            rw [List.length_map, List.take_length] at e4
            have s24 := s3.trans s4
            have s04 := s02.trans s24
            have eA : (((uniqO a []).filter fun t => decide (t < st + m)).map fun t => ((t, Rw.cntR f a m t) : Stp)).map stD = (stepsA f a m st).map siD := by
              unfold stepsA
              rw [List.map_map, List.map_map]
              refine List.map_congr_left fun t _ => ?_
              show stD (t, Rw.cntR f a m t) = stD (t, some (cntZ f a m t))
              unfold cntZ
              cases hcc : Rw.cntR f a m t with
              | none => exact absurd hcc (hc t)
              | some c => rfl
            have lenA : (stepsA f a m st).length ≤ 500 := by
              unfold stepsA
              rw [List.length_map]
              have := List.length_filter_le (fun t => decide (t < st + m)) (uniqO a [])
              omega
            refine ⟨_, rfl, p, f, a, m, rfl, s04.row hR, l2, fun H5 s5 => ?_⟩
            have s25 := s24.trans s5
            have s05 := s04.trans s5
            obtain ⟨xs, e5, d5⟩ := e2.same s25
            obtain ⟨ys, e6, d6⟩ := e4.same s5
            rw [eA] at d6
            refine ⟨_, rfl, _, rfl, _, rfl, p, R, dx, _, _, rfl, s05 _ _ h1, cl, nM, lkM, _, rfl, p, R, dx, _, _, rfl, s05 _ _ h1, cl, nA, lkA, pa, _, rfl, Or.inr (SqT.of (s05 _ _ h3)), ?_⟩
            rw [List.length_map]
            refine rd_tal (u := some (nonesN f : Nat)) (fs := stepsF f a m st) (as := stepsA f a m st) (t := m) (m := (a.length : Nat)) (d1 := .list ((stepsF f a m st).map stD)) (d2 := .list ((stepsA f a m st).map siD)) (.lst e5 (d5.same off_same) ?_) rfl rfl (.lst e6 (d6.same off_same) ?_) rfl rfl (by omega) (by omega) W fun H' g f' a' t' m' s' n' M' T' => kk H' g f' a' t' m' (s05.trans s') (s05.free n') M' T'
            · rw [List.length_map]
              omega
            · rw [List.length_map]
              omega
end
end My

namespace My
open PySem PySem.Spec PyProof.Rows L2
local macro_rules | `(tactic| walk_at "side") => `(tactic| first | (dsimp only; omega) | exact ⟨by omega, by omega⟩ | exact Or.inl ⟨by omega, by omega⟩ | exact Or.inr ⟨by omega, by omega⟩ | decide)
local macro_rules | `(tactic| walk_at "sq") => `(tactic| first | assumption | exact SqL.of (by assumption) | exact SqT.of (by assumption) | (refine L2.Same.seq (by assumption) ?_; walk_at "sq") | (refine L2.Same.seqT (by assumption) ?_; walk_at "sq") | exact Or.inl (by walk_at "sq") | exact Or.inr (by walk_at "sq"))
local macro_rules | `(tactic| walk_at "1") => `(tactic| first
  | refine ⟨_, rfl, iteT ?_⟩
  | refine ⟨_, rfl, iteF ?_⟩
  | refine ⟨_, rfl, ?_⟩
  | refine ⟨_, _, rfl, rfl, (by walk_at "side"), ?_⟩
  | refine ⟨_, _, rfl, rfl, ?_⟩
  | refine ⟨_, _, _, _, true, rfl, .ty _, .base (.int _), kit_ty (a := "int") (by decide +kernel), ?_⟩
  | refine ⟨_, _, _, _, false, rfl, .ty _, .base (.int _), kit_ty (a := "int") (by decide +kernel), ?_⟩
  | refine ⟨_, _, rfl, (by walk_at "sq"), ?_⟩
  | refine ⟨_, _, _, _, rfl, rfl, (by walk_at "sq"), (by first | rfl | assumption), ?_⟩
  | refine Or.inl ⟨_, _, _, _, rfl, rfl, (by walk_at "sq"), (by first | rfl | assumption), ?_⟩
  | refine Or.inr (Or.inl ⟨_, _, _, _, rfl, rfl, (by walk_at "sq"), (by first | rfl | assumption), ?_⟩)
  | refine ⟨_, _, rfl, Or.inl ⟨(by walk_at "sq"), ?_⟩⟩
  | refine ⟨rfl, ?_⟩
  | refine iteT ?_
  | refine iteF ?_
  | refine ⟨_, _, _, _, _, rfl, (by assumption), (by assumption), (by assumption), (by assumption), ?_⟩
  | refine Or.inl ⟨_, rfl, ?_⟩
  | refine Or.inr ⟨_, rfl, ?_⟩
  | refine ⟨_, _, rfl, (by walk_at "side"), ?_⟩
  | refine ⟨_, _, rfl, ?_⟩)
local macro_rules | `(tactic| walk_at "fld") => `(tactic| skip)
local macro_rules | `(tactic| walk_at "s") => `(tactic| repeat walk_at "1")
local macro_rules | `(tactic| walk_at "size") => `(tactic| first | exact Nat.le_of_ble_eq_true rfl | (simp only [List.length_map, List.length_append, List.length_cons, List.length_nil]; omega))
local macro_rules | `(tactic| walk_at "new") => `(tactic| (first | refine ⟨(by walk_at "size"), fun p hp => ?_⟩ | refine fun p hp => ?_); (generalize hq : upd _ p _ = H1); (obtain ⟨s, e⟩ := new_facts hp hq); clear hq)
/-! the goings of a tally -/
open Rw (ov)
theorem go_no {σ : L2.St} {H : Hp} {Q : Option Int → Hp → Prop} (h : Q none H) : tNoPart σ H Q := h
theorem go_nil {σ : L2.St} {H : Hp} {Q : List V → Hp → Prop} (h : Q [] H) : tNil σ H Q := h
/-- each time as often as the count grows -/
def spread : Int → List Sti → List (Option Int)
  | _, [] => []
  | told, x :: r => List.replicate (x.2 - told).toNat (some x.1) ++ spread x.2 r
def lastC (u : Int) (ss : List Sti) : Int := ((ss.getLast?).map (·.2)).getD u
theorem lastC_cons (u : Int) (x : Sti) (r : List Sti) : lastC u (x :: r) = lastC x.2 r := by
  unfold lastC
  cases r with
  | nil => rfl
  | cons y r => rfl
theorem lastC_snoc (u : Int) (ss : List Sti) (x : Sti) : lastC u (ss ++ [x]) = x.2 := by
  unfold lastC
  rw [List.getLast?_concat]
  rfl
theorem spread_snoc : ∀ (u : Int) (ss : List Sti) (x : Sti), spread u (ss ++ [x]) = spread u ss ++ List.replicate (x.2 - lastC u ss).toNat (some x.1)
  | u, [], x => by
    show List.replicate (x.2 - u).toNat (some x.1) ++ [] = _
    rw [List.append_nil]
    rfl
  | u, y :: r, x => by
    show List.replicate (y.2 - u).toNat (some y.1) ++ spread y.2 (r ++ [x]) = _
    rw [spread_snoc y.2 r x, lastC_cons, ← List.append_assoc]
    rfl
def timesM (u : Int) (ss : List Sti) : List (Option Int) := List.replicate u.toNat none ++ spread u ss
theorem timesM_snoc (u : Int) (ss : List Sti) (x : Sti) : timesM u (ss ++ [x]) = timesM u ss ++ List.replicate (x.2 - lastC u ss).toNat (some x.1) := by
  unfold timesM
  rw [spread_snoc, ← List.append_assoc]
theorem spread_part (u : Int) : ∀ (k : Nat) (ss : List Sti), (spread u (ss.take k)).length ≤ (spread u ss).length := fun k ss => by
  induction ss generalizing u k with
  | nil => simp
  | cons x r ih =>
    cases k with
    | zero => exact Nat.zero_le _
    | succ k =>
      show (List.replicate _ _ ++ spread x.2 (r.take k)).length ≤ (List.replicate _ _ ++ spread x.2 r).length
      rw [List.length_append, List.length_append]
      have := ih x.2 k
      omega
theorem rep_flat (n : Nat) (v : V) : (List.replicate n [v]).flatten = List.replicate n v := by
  induction n with
  | zero => rfl
  | succ n ih => rw [List.replicate_succ, List.flatten_cons, ih]; rfl
theorem rd_slA {K : PySem.W.Frag} {H : Hp} {a : Addr} {xs : List V} {lo hi : Option Int} {Q : VK} (e : H a = some (.tup xs)) (k : ∀ H' q, Same H H' → (∀ b, H' b = none → H b = none) → H' q = some (.tup (cutV xs lo hi)) → Q (.ref q) H') : rSlA K (.ref a) lo hi H Q := by
  refine ⟨a, xs, rfl, SqT.of e, fun h => k H a (Same.refl _) (fun _ q => q) ?_, fun _ p np => k _ p (same_upd np) (fun b => (same_upd np).free) upd_same⟩
  unfold cutV
  rw [h.1, h.2, List.drop_zero, Nat.sub_zero, List.take_length]
  exact e
theorem cut_from1 {xs : List V} : cutV xs (some 1) none = xs.drop 1 := by
  show cutV xs (some ((1 : Nat) : Int)) none = _
  unfold cutV
  rw [HT.sIx_nat, HT.sIx_none]
  by_cases h : 1 ≤ xs.length
  · rw [Nat.min_eq_left h]
    exact List.take_of_length_le (by rw [List.length_drop]; omega)
  · rw [Nat.min_eq_right (by omega), List.drop_of_length_le (Nat.le_refl _), List.drop_of_length_le (by omega), List.take_nil]
theorem cut_to1 {xs : List V} : cutV xs none (some 1) = xs.take 1 := by
  show cutV xs none (some ((1 : Nat) : Int)) = _
  unfold cutV
  rw [HT.sIx_nat, HT.sIx_none, List.drop_zero, Nat.sub_zero]
  by_cases h : 1 ≤ xs.length
  · rw [Nat.min_eq_left h]
  · rw [Nat.min_eq_right (by omega), List.take_length, List.take_of_length_le (by omega)]
/-- tuples and objects stay -/
def KeepTI (H H' : Hp) : Prop := (∀ c xs, H c = some (.tup xs) → H' c = some (.tup xs)) ∧ ∀ c C dx fs, H c = some (.ins C dx fs) → H' c = some (.ins C dx fs)
theorem sts_keep {H H' : Hp} (k : KeepTI H H') : ∀ {ss : List Stp} {xs : List V}, DvAll H xs (ss.map stD) → DvAll H' xs (ss.map stD)
  | [], xs, h => by
    obtain rfl := h.inv0
    exact .nil
  | s :: ss, xs, h => by
    obtain ⟨x, ys, rfl, d, t⟩ := DvAll.inv (d := stD s) (ds := ss.map stD) h
    obtain ⟨p, rfl, e⟩ := dv_pr (x := prO s) d
    exact .cons (pr_dv (x := prO s) (k.1 _ _ e)) (sts_keep k t)
theorem dvs_take {H : Hp} : ∀ (n : Nat) {xs : List V} {ds : List PyData}, DvAll H xs ds → DvAll H (xs.take n) (ds.take n)
  | 0, xs, ds, _ => by
    rw [List.take_zero, List.take_zero]
    exact .nil
  | n + 1, _, _, .nil => .nil
  | n + 1, _, _, .cons h t => .cons h (dvs_take n t)
theorem dvs_drop {H : Hp} : ∀ (n : Nat) {xs : List V} {ds : List PyData}, DvAll H xs ds → DvAll H (xs.drop n) (ds.drop n)
  | 0, xs, ds, h => h
  | n + 1, _, _, .nil => .nil
  | n + 1, _, _, .cons h t => dvs_drop n t
theorem keep_off {H0 H : Hp} {b : Addr} {xs : List V} (s : Same H0 H) (e : H0 b = some (.lst xs)) : KeepTI H0 (off b H) :=
  ⟨fun c ys h => by rw [off_ne (fun z => by rw [z, e] at h; cases h)]; exact s _ _ h, fun c C dx fs h => by rw [off_ne (fun z => by rw [z, e] at h; cases h)]; exact s _ _ h⟩
/-- counts and lengths are small -/
structure GoIn (u : Int) (ss : List Sti) : Prop where
  u0 : 0 ≤ u
  u1 : u < 1000000
  all : ∀ x ∈ ss, 0 ≤ x.2 ∧ x.2 < 1000000
  len : (timesM u ss).length < 500
theorem GoIn.last {u : Int} {ss : List Sti} (h : GoIn u ss) (k : Nat) : 0 ≤ lastC u (ss.take k) ∧ lastC u (ss.take k) < 1000000 := by
  unfold lastC
  cases e : (ss.take k).getLast? with
  | none => exact ⟨h.u0, h.u1⟩
  | some x => exact h.all x (List.mem_of_mem_take (List.mem_of_getLast? e))
theorem GoIn.part {u : Int} {ss : List Sti} (h : GoIn u ss) (k : Nat) : (timesM u (ss.take k)).length < 500 := by
  have h1 := h.len
  have h2 := spread_part u k ss
  unfold timesM at h1 ⊢
  rw [List.length_append] at h1 ⊢
  omega
/-- the row of a tally: what is asked, what comes -/
def spGoings (C R : Addr) : Sp := fun vs H Q _ => ∃ (q : Addr) (u : Option Int) (f : List Stp) (a : List Sti) (t m : Int), vs = [.ref q] ∧ TalAt C H q u f a t m ∧ f.length ≤ 900 ∧ a.length ≤ 900 ∧
  ((u = none ∧ ∀ H' p, Same H H' → H p = none → Rw.RowAt R H' p [] [none] 0 → Q (.ref p) H') ∨
   (∃ (U : Int) (g : List Sti) (T : Int), u = some U ∧ f = g.map up ++ [(T, none)] ∧ a = [] ∧ GoIn U g ∧ Rw.OkRow (timesM U g) [some T] 0 ∧
     ∀ H' p f' a' m', Same H H' → H p = none → Rw.MadeOf (timesM U g) [some T] 0 f' a' m' → Rw.RowAt R H' p f' a' m' → Q (.ref p) H') ∨
   (∃ (U : Int) (g : List Sti) (x : Sti) (r : List Sti), u = some U ∧ f = g.map up ∧ a = x :: r ∧ GoIn U (g ++ [x]) ∧ GoIn x.2 (r ++ [(x.1 + t, x.2 + m)]) ∧ (spread x.2 (r ++ [(x.1 + t, x.2 + m)])).length < 500 ∧ 0 ≤ t ∧ t < 2 ^ 60 ∧
     Rw.OkRow (timesM U (g ++ [x])) (spread x.2 (r ++ [(x.1 + t, x.2 + m)])) t ∧
     ∀ H' p f' a' m', Same H H' → H p = none → Rw.MadeOf (timesM U (g ++ [x])) (spread x.2 (r ++ [(x.1 + t, x.2 + m)])) t f' a' m' → Rw.RowAt R H' p f' a' m' → Q (.ref p) H'))
section
variable {P : Program} {w : World} {K : PySem.W.Frag} {mg : Str → Option Value} {base : Heap} {C D R : Addr}
abbrev s_goings : Stmt := topS 48
theorem sc_goings : FnScope ["counts", "times", "told", "time", "there", "again"] ["counts"] (defScope s_goings) := ⟨rfl, rfl, rfl, by decide +kernel, rfl, by decide +kernel, by decide +kernel⟩
set_option maxHeartbeats 8000000 in
theorem ok_goings (F : Df K mg "goings" s_goings ["counts"]) (T : Txt mg) (Z : TalCls K C) (M : RowMk P w K mg base R) (o_empty : Own P w K mg base "empty" 6 [] (spOne R none)) : OwnF P w K mg base "goings" s_goings 7 ["counts"] (spGoings C R) := by
  refine F.ownF sc_goings (fun vs H Q E h => ?_) (fun fa cdv A outer s H vs Q E hr h => ?_)
  · obtain ⟨_, _, _, _, _, _, rfl, _⟩ := h
    rfl
  · obtain ⟨q, u, f, a, t, m, rfl, hT, lf, la, hh⟩ := h
    obtain ⟨dx, pf, pa, xf, xa, h1, h2, h3, h4, h5⟩ := id hT
    refine ⟨_, (pss_cons (ps_if (pt_cmpR op_isN (pe_fld (pv 0) rfl) pe_non (nomark _))
    (pss_one (ps_ret (pe_own0 o_empty (hr.mono (by decide)))))
    pss_nil)
  (pss_cons (ps_set (i := 1) sc_goings.nd rfl (Or.inl rfl) (pe_op op_rep (pe_lst (pa_cons pe_non pa_nil)) (pe_fld (pv 0) rfl)))
  (pss_cons (ps_set (i := 2) sc_goings.nd rfl (Or.inl rfl) (pe_fld (pv 0) rfl))
  (pss_cons (ps_for PassesOwn.never rfl (pi_list (pe_lst (StX.pa_star (pe_fld (pv 0) rfl) (StX.pa_star (pe_slice sl_tupA (pe_fld (pv 0) rfl) po_none (po_some pe_int)) pa_nil)))) (pg_tup (by rfl) (pgs_cons (pg_name (i := 3) sc_goings.nd rfl (Or.inl rfl)) (pgs_cons (pg_name (i := 4) sc_goings.nd rfl (Or.inl rfl)) pgs_nil)))
    (pss_cons (ps_if (pt_cmpR op_isN (pv 4) pe_non (nomark _))
        (pss_one (ps_ret (pe_rowD M (hr.mono (by decide)) (pa_cons (pv 1) (pa_cons (pe_lst (pa_cons (pv 3) pa_nil)) pa_nil)))))
        pss_nil)
      (pss_cons (ps_expr (pe_bm PySem.F.plainAttrs_list PySem.F.slot_list_extend PySem.F.type_list_extend mt_extend (pv 1) (pa_cons (pe_op op_rep (pe_lst (pa_cons (pv 3) pa_nil)) (pe_op op_sub (pv 4) (pv 2))) pa_nil)))
      (pss_one (ps_set (i := 2) sc_goings.nd rfl (Or.inl rfl) (pv 4))))))
  (pss_cons (ps_set (i := 5) sc_goings.nd rfl (Or.inl rfl) (pe_lst pa_nil))
  (pss_cons (ps_for PassesOwn.never rfl (pi_list (pe_lst (StX.pa_star (pe_slice sl_tupA (pe_fld (pv 0) rfl) (po_some pe_int) po_none) (pa_cons (pe_tup (pa_cons (pe_op op_add (pe_ix ix_tup (pe_ix ix_tup (pe_fld (pv 0) rfl) pe_int (fun _ _ => rfl)) pe_int (fun _ _ => rfl)) (pe_fld (pv 0) rfl)) (pa_cons (pe_op op_add (pe_ix ix_tup (pe_ix ix_tup (pe_fld (pv 0) rfl) pe_int (fun _ _ => rfl)) pe_int (fun _ _ => rfl)) (pe_fld (pv 0) rfl)) pa_nil))) pa_nil)))) (pg_tup (by rfl) (pgs_cons (pg_name (i := 3) sc_goings.nd rfl (Or.inl rfl)) (pgs_cons (pg_name (i := 4) sc_goings.nd rfl (Or.inl rfl)) pgs_nil)))
    (pss_cons (ps_expr (pe_bm PySem.F.plainAttrs_list PySem.F.slot_list_extend PySem.F.type_list_extend mt_extend (pv 5) (pa_cons (pe_op op_rep (pe_lst (pa_cons (pv 3) pa_nil)) (pe_op op_sub (pv 4) (pv 2))) pa_nil)))
      (pss_one (ps_set (i := 2) sc_goings.nd rfl (Or.inl rfl) (pv 4)))))
  (pss_one (ps_ret (pe_row M (hr.mono (by decide)) (pa_cons (pv 1) (pa_cons (pv 5) (pa_cons (pe_fld (pv 0) rfl) pa_nil)))))))))))), ?_⟩
    have cl := Z.cl
    have ltu : (talF u pf pa t m).lookup ("under" : Str) = some (cV u) := rfl
    have ltf : (talF u pf pa t m).lookup ("first" : Str) = some (.ref pf) := rfl
    have lta : (talF u pf pa t m).lookup ("again" : Str) = some (.ref pa) := rfl
    have ltt : (talF u pf pa t m).lookup ("turn" : Str) = some (.int t) := rfl
    have ltm : (talF u pf pa t m).lookup ("more" : Str) = some (.int m) := rfl
    refine ⟨_, rfl, q, C, dx, _, _, rfl, h1, cl, Z.nU, ltu, rfl, _, rfl, ?_⟩
    cases u with
    | none =>
      refine iteT ?_
      rcases hh with ⟨_, k⟩ | ⟨_, _, _, z, _⟩ | ⟨_, _, _, _, z, _⟩
      · exact ⟨rfl, fun H' p s' n' r' => k H' p s' n' r'⟩
      · cases z
      · cases z
    | some U =>
      refine iteF ?_
      obtain ⟨W, W2, e1f, G1, hk⟩ : ∃ (W : List Sti) (W2 : List Stp), f ++ (a.take 1).map up = W.map up ++ W2 ∧ GoIn U W ∧
          ((∃ T, W2 = [(T, none)] ∧ Rw.OkRow (timesM U W) [some T] 0 ∧ ∀ H' p f' a' m', Same H H' → H p = none → Rw.MadeOf (timesM U W) [some T] 0 f' a' m' → Rw.RowAt R H' p f' a' m' → Q (.ref p) H') ∨
           (W2 = [] ∧ ∃ (g : List Sti) (x : Sti) (r : List Sti), W = g ++ [x] ∧ a = x :: r ∧ GoIn x.2 (r ++ [(x.1 + t, x.2 + m)]) ∧ (spread x.2 (r ++ [(x.1 + t, x.2 + m)])).length < 500 ∧ 0 ≤ t ∧ t < 2 ^ 60 ∧
     Rw.OkRow (timesM U W) (spread x.2 (r ++ [(x.1 + t, x.2 + m)])) t ∧
     ∀ H' p f' a' m', Same H H' → H p = none → Rw.MadeOf (timesM U W) (spread x.2 (r ++ [(x.1 + t, x.2 + m)])) t f' a' m' → Rw.RowAt R H' p f' a' m' → Q (.ref p) H')) := by
        rcases hh with ⟨z, _⟩ | ⟨U', g, T, z, rfl, rfl, G, ok, k⟩ | ⟨U', g, x, r, z, rfl, rfl, G, G2, l2, t0, t1, ok, k⟩
        · cases z
        · cases z
          exact ⟨g, [(T, none)], by simp, G, Or.inl ⟨T, rfl, ok, k⟩⟩
        · cases z
          exact ⟨g ++ [x], [], by simp, G, Or.inr ⟨rfl, g, x, r, rfl, rfl, G2, l2, t0, t1, ok, k⟩⟩
      have u0 := G1.u0
      have u1 := G1.u1
      have uL : U.toNat < 500 := by
        have := G1.len
        unfold timesM at this
        rw [List.length_append, List.length_replicate] at this
        omega
      refine ⟨Nat.le_of_ble_eq_true rfl, fun p1 n1 => ?_⟩
      generalize hq : upd H p1 _ = H1 at *
      obtain ⟨s1, e1⟩ := new_facts n1 hq
      clear hq
      refine ⟨_, rfl, q, C, dx, _, _, rfl, s1 _ _ h1, cl, Z.nU, ltu, p1, U, _, rfl, rfl, e1, by omega, by omega, ?_, fun TL nT => ?_⟩
      · show 1 * U.toNat ≤ sizeLine
        exact Nat.le_of_lt (small2000 (by omega))
      rw [rep_flat]
      generalize hq : upd H1 TL _ = H2 at *
      obtain ⟨s2, e2⟩ := new_facts nT hq
      clear hq
      have s02 := s1.trans s2
      have eT : H2 TL = some (.lst ((timesM U []).map ov)) := by
        rw [e2]
        unfold timesM spread
        rw [List.append_nil, List.map_replicate]
        rfl
      clear e2 e1
      refine ⟨_, rfl, q, C, dx, _, _, rfl, s02 _ _ h1, cl, Z.nU, ltu, ?_⟩
      refine ⟨_, rfl, q, C, dx, _, _, rfl, s02 _ _ h1, cl, Z.nF, ltf, pf, xf, rfl, Or.inl (SqT.of (s02 _ _ h2)), ?_⟩
      refine ⟨_, rfl, q, C, dx, _, _, rfl, s02 _ _ h1, cl, Z.nA, lta, ?_⟩
      refine go_no ?_
      refine ⟨1, rfl, rd_slA (s02 _ _ h4) fun H3 q3 s3 n3 e3 => ⟨q3, _, rfl, Or.inl (SqT.of e3), ?_⟩⟩
      refine go_nil ?_
      rw [cut_to1] at e3 ⊢
      have hW : DvAll H3 (xf ++ (xa.take 1 ++ [])) ((W.map up ++ W2).map stD) := by
        rw [← e1f, List.map_append, List.append_nil]
        refine (h3.same (s02.trans s3)).app ?_
        have := dvs_take 1 (h5.same (s02.trans s3))
        rw [← List.map_take] at this
        rw [List.map_map]
        exact this
      have lW : (xf ++ (xa.take 1 ++ [])).length ≤ 1000 := by
        rw [hW.len, ← e1f, List.length_map, List.length_append, List.length_map, List.length_take]
        omega
      obtain ⟨ws, hws⟩ : ∃ ws, ws = xf ++ (xa.take 1 ++ []) := ⟨_, rfl⟩
      refine ⟨Nat.le_of_lt (small2000 (Nat.le_trans lW (by decide))), fun L nL => ?_⟩
      have eT3 := s3 _ _ eT
      have TLL : L ≠ TL := fun z => by rw [z, eT3] at nL; cases nL
      generalize hq : upd H3 L _ = H4 at *
      obtain ⟨s4, e4⟩ := new_facts nL hq
      clear hq
      have e4 : H4 L = some (.lst (xf ++ (xa.take 1 ++ []))) := e4
      rw [← hws] at e4 hW lW
      have s04 := s02.trans (s3.trans s4)
      have eT4 := s4 _ _ eT3
      have hW4 : DvAll (off TL H4) ws ((W.map up ++ W2).map stD) := sts_keep (keep_off s4 eT3) hW
      have nT0 : H TL = none := s1.free nT
      refine ⟨L, rfl, ⟨_, SqL.of e4⟩, ?_⟩
      refine for_seq (H0 := off TL H4) (seqIt_l (SqL.of (by rw [off_ne TLL]; exact e4))) (fun i σ' H' => i ≤ W.length ∧ ∃ y3 y4 : Option V, σ' = [some (.ref q), some (.ref TL), some (.int (lastC U (W.take i))), y3, y4, none] ∧ Same (off TL H4) H' ∧ H' TL = some (.lst ((timesM U (W.take i)).map ov))) ?_ (fun i σ' H' ⟨_, _, _, _, z, _⟩ => z) ?_ ?_
      · exact ⟨Nat.zero_le _, none, none, rfl, off_same, eT4⟩
      · rintro i x σ' H5 hx ⟨hi, y3, y4, rfl, s5, e5⟩
        obtain ⟨d, hd, dv⟩ := hW4.get hx
        have part := G1.part i
        by_cases c : i < W.length
        · rw [List.getElem?_map, List.getElem?_append_left (by rw [List.length_map]; exact c), List.getElem?_map, List.getElem?_eq_getElem c] at hd
          cases hd
          have et : W.take (i + 1) = W.take i ++ [W[i]] := by rw [List.take_add_one, List.getElem?_eq_getElem c]; rfl
          have bd := G1.all _ (List.getElem_mem c)
          have part2 := G1.part (i + 1)
          have lb := G1.last i
          generalize W[i] = y at dv et bd
          obtain ⟨r, rfl, er⟩ := dv_pr (x := prO (up y)) dv
          refine ⟨r, _, rfl, SqT.of (s5 _ _ er), rfl, _, _, rfl, _, _, rfl, rfl, ?_⟩
          refine ⟨_, rfl, rfl, _, rfl, ?_⟩
          refine iteF ?_
          refine ⟨_, rfl, Or.inl ⟨rfl, _, SqL.of e5⟩, _, rfl, Nat.le_of_ble_eq_true rfl, fun p np => ?_⟩
          generalize hq : upd H5 p _ = H6 at *
          obtain ⟨s6, e6⟩ := new_facts np hq
          clear hq
          have sz : (timesM U (W.take i)).length + (y.2 - lastC U (W.take i)).toNat < 500 := by
            have h := part2
            rw [et, timesM_snoc, List.length_append, List.length_replicate] at h
            exact h
          refine ⟨_, rfl, _, rfl, _, _, rfl, rfl, p, y.2 - lastC U (W.take i), _, rfl, rfl, e6, by omega, by omega, ?_, fun r2 nr2 => ?_⟩
          · show 1 * _ ≤ sizeLine
            exact Nat.le_of_lt (small2000 (by omega))
          rw [rep_flat]
          generalize hq : upd H6 r2 _ = H7 at *
          obtain ⟨s7, e7⟩ := new_facts nr2 hq
          clear hq
          have s57 := s6.trans s7
          refine ⟨TL, r2, _, _, rfl, rfl, s57 _ _ e5, e7, ?_, ?_⟩
          · rw [List.length_map, List.length_replicate]
            exact Nat.le_of_lt (small2000 (by omega))
          refine ⟨_, rfl, c, some (.int y.1), some (.int y.2), ?_, fun b o e => ?_, ?_⟩
          · rw [et, lastC_snoc]
            rfl
          · rw [upd_ne (off_of e).1]
            exact s57 _ _ (s5 _ _ e)
          · rw [upd_same, et, timesM_snoc, List.map_append, List.map_replicate]
            rfl
        · have ei : i = W.length := by omega
          subst ei
          rw [List.getElem?_map, List.getElem?_append_right (by rw [List.length_map]; exact Nat.le_refl _), List.length_map, Nat.sub_self] at hd
          rcases hk with ⟨T, rfl, okR, k⟩ | ⟨rfl, _⟩
          · cases hd
            obtain ⟨r, rfl, er⟩ := dv_pr (x := prO (T, none)) dv
            refine ⟨r, _, rfl, SqT.of (s5 _ _ er), rfl, _, _, rfl, _, _, rfl, rfl, ?_⟩
            refine ⟨_, rfl, rfl, _, rfl, ?_⟩
            refine iteT ?_
            refine ⟨_, rfl, _, rfl, Nat.le_of_ble_eq_true rfl, fun p np => ?_⟩
            generalize hq : upd H5 p _ = H6 at *
            obtain ⟨s6, e6⟩ := new_facts np hq
            clear hq
            have back : ∀ b, H6 b = none → H b = none := fun b n => by
              have n5 := s6.free n
              cases hb : H b with
              | none => rfl
              | some o =>
                have nb : b ≠ TL := fun z => by rw [z, nT0] at hb; cases hb
                have := s5 _ _ (show off TL H4 b = some o by rw [off_ne nb]; exact s04 _ _ hb)
                rw [n5] at this
                cases this
            have s06 : Same H H6 := fun b o e => by
              have nb : b ≠ TL := fun z => by rw [z, nT0] at e; cases e
              exact s6 _ _ (s5 _ _ (show off TL H4 b = some o by rw [off_ne nb]; exact s04 _ _ e))
            rw [List.take_length] at e5
            exact rd_row (f := timesM U W) (a := [some T]) (m := 0) (Or.inl (s6 _ _ e5)) (Or.inl e6) okR G1.len (by show 1 < 500; decide) (by decide) (by decide) fun H' g f' a' m' s' n' M' T' => k H' g f' a' m' (s06.trans s') (back _ n') M' T'
          · cases hd
      · rintro σ' H5 ⟨hi, y3, y4, rfl, s5, e5⟩
        have lws := hW.len
        rw [List.length_map, List.length_append, List.length_map] at lws
        rw [List.take_of_length_le (by omega)] at e5
        rw [List.take_of_length_le (by omega)]
        rcases hk with ⟨T, rfl, _, _⟩ | ⟨rfl, g, x, r, rfl, rfl, G2, l2, t0, t1, okR, k⟩
        · rw [List.length_singleton] at lws
          omega
        rw [lastC_snoc]
        obtain ⟨v0, xr, rfl, d0, dr⟩ := DvAll.inv (d := siD x) (ds := r.map siD) h5
        obtain ⟨r0, rfl, er0⟩ := dv_si d0
        have nTz : ∀ {b : Addr} {o : HO}, H b = some o → b ≠ TL := fun e z => by rw [z, nT0] at e; cases e
        have s05 : Same H H5 := fun b o e => s5 _ _ (show off TL H4 b = some o by rw [off_ne (nTz e)]; exact s04 _ _ e)
        have back5 : ∀ b, H5 b = none → H b = none := fun b n => s05.free n
        refine ⟨Nat.zero_le _, fun AL nAL => ?_⟩
        have ALT : AL ≠ TL := fun z => by rw [z, e5] at nAL; cases nAL
        generalize hq : upd H5 AL _ = H6 at *
        obtain ⟨s6, e6⟩ := new_facts nAL hq
        clear hq
        have s06 := s05.trans s6
        refine ⟨_, rfl, q, C, dx, _, _, rfl, s06 _ _ h1, cl, Z.nA, lta, 1, rfl, ?_⟩
        refine go_no ?_
        refine rd_slA (s06 _ _ h4) fun H7 q3 s7 n7 e7 => ⟨q3, _, rfl, Or.inl (SqT.of e7), ?_⟩
        have s07 := s06.trans s7
        have hv0 : atI (V.ref r0 :: xr) 0 = some (V.ref r0) := atI_nat (j := 0) rfl
        refine ⟨_, rfl, q, C, dx, _, _, rfl, s07 _ _ h1, cl, Z.nA, lta, pa, _, 0, _, rfl, rfl, SqT.of (s07 _ _ h4), hv0, r0, _, 0, _, rfl, rfl, SqT.of (s07 _ _ er0), atI_nat (j := 0) rfl, _, rfl, q, C, dx, _, _, rfl, s07 _ _ h1, cl, Z.nT, ltt, _, _, rfl, rfl, ?_⟩
        refine ⟨_, rfl, q, C, dx, _, _, rfl, s07 _ _ h1, cl, Z.nA, lta, pa, _, 0, _, rfl, rfl, SqT.of (s07 _ _ h4), hv0, r0, _, 1, _, rfl, rfl, SqT.of (s07 _ _ er0), atI_nat (j := 1) rfl, _, rfl, q, C, dx, _, _, rfl, s07 _ _ h1, cl, Z.nM, ltm, _, _, rfl, rfl, ?_⟩
        refine ⟨Nat.le_of_ble_eq_true rfl, fun z nz => ?_⟩
        refine go_nil ?_
        generalize hq : upd H7 z _ = H8 at *
        obtain ⟨s8, e8⟩ := new_facts nz hq
        clear hq
        rw [cut_from1] at e7
        have s78 := s7.trans s8
        have s08 := s06.trans s78
        have hW8 : DvAll H8 (xr ++ [.ref z]) ((r ++ [(x.1 + t, x.2 + m)]).map siD) := by
          rw [List.map_append]
          exact (dr.same s08).app (.cons (si_dv (x := (x.1 + t, x.2 + m)) e8) .nil)
        have lr : (xr ++ [V.ref z]).length ≤ 1000 := by
          rw [hW8.len, List.length_map, List.length_append, List.length_singleton]
          rw [List.length_cons] at la
          omega
        refine ⟨?_, fun L2 nL2 => ?_⟩
        · rw [cut_from1]
          exact Nat.le_of_lt (small2000 (Nat.le_trans lr (by decide)))
        generalize hq : upd H8 L2 _ = H9 at *
        obtain ⟨s9, e9⟩ := new_facts nL2 hq
        clear hq
        rw [cut_from1] at e9
        have e9 : H9 L2 = some (.lst (xr ++ [.ref z])) := e9
        have eA8 := s78 _ _ e6
        have eA9 := s9 _ _ eA8
        have LA : L2 ≠ AL := fun w => by rw [w, eA8] at nL2; cases nL2
        have s09 := s08.trans s9
        have eT9 := s9 _ _ (s78 _ _ (s6 _ _ e5))
        generalize hW3 : r ++ [(x.1 + t, x.2 + m)] = W3 at *
        have hW9 : DvAll (off AL H9) (xr ++ [.ref z]) (W3.map siD) := by
          have e : W3.map siD = (W3.map up).map stD := by rw [List.map_map]; rfl
          rw [e] at hW8 ⊢
          exact sts_keep (keep_off s9 eA8) hW8
        have nA0 : H AL = none := back5 _ nAL
        refine ⟨L2, rfl, ⟨_, SqL.of e9⟩, ?_⟩
        refine for_seq (H0 := off AL H9) (seqIt_l (SqL.of (by rw [off_ne LA]; exact e9))) (fun i σ' H' => i ≤ W3.length ∧ ∃ y3 y4 : Option V, σ' = [some (.ref q), some (.ref TL), some (.int (lastC x.2 (W3.take i))), y3, y4, some (.ref AL)] ∧ Same (off AL H9) H' ∧ H' AL = some (.lst ((spread x.2 (W3.take i)).map ov))) ?_ (fun i σ' H' ⟨_, _, _, _, z, _⟩ => z) ?_ ?_
        · exact ⟨Nat.zero_le _, y3, y4, rfl, off_same, eA9⟩
        · rintro i y σ' H10 hy ⟨hi, y3, y4, rfl, s10, e10⟩
          obtain ⟨d, hd, dv⟩ := hW9.get hy
          have c : i < W3.length := by
            have := (List.getElem?_eq_some_iff.mp hd).1
            rw [List.length_map] at this
            exact this
          rw [List.getElem?_map, List.getElem?_eq_getElem c] at hd
          cases hd
          have et : W3.take (i + 1) = W3.take i ++ [W3[i]] := by rw [List.take_add_one, List.getElem?_eq_getElem c]; rfl
          have bd := G2.all _ (List.getElem_mem c)
          have part2 := spread_part x.2 (i + 1) W3
          have lb := G2.last i
          generalize W3[i] = y' at dv et bd
          obtain ⟨r1, rfl, er⟩ := dv_si dv
          refine ⟨r1, _, rfl, SqT.of (s10 _ _ er), rfl, _, _, rfl, _, _, rfl, rfl, ?_⟩
          refine ⟨_, rfl, Or.inl ⟨rfl, _, SqL.of e10⟩, _, rfl, Nat.le_of_ble_eq_true rfl, fun p np => ?_⟩
          generalize hq : upd H10 p _ = H11 at *
          obtain ⟨s11, e11⟩ := new_facts np hq
          clear hq
          have sz : (spread x.2 (W3.take i)).length + (y'.2 - lastC x.2 (W3.take i)).toNat < 500 := by
            have h := part2
            rw [et, spread_snoc, List.length_append, List.length_replicate] at h
            omega
          refine ⟨_, rfl, _, rfl, _, _, rfl, rfl, p, y'.2 - lastC x.2 (W3.take i), _, rfl, rfl, e11, by omega, by omega, ?_, fun r2 nr2 => ?_⟩
          · show 1 * _ ≤ sizeLine
            exact Nat.le_of_lt (small2000 (by omega))
          rw [rep_flat]
          generalize hq : upd H11 r2 _ = H12 at *
          obtain ⟨s12, e12⟩ := new_facts nr2 hq
          clear hq
          have s1012 := s11.trans s12
          refine ⟨AL, r2, _, _, rfl, rfl, s1012 _ _ e10, e12, ?_, ?_⟩
          · rw [List.length_map, List.length_replicate]
            exact Nat.le_of_lt (small2000 (by omega))
          refine ⟨_, rfl, c, some (.int y'.1), some (.int y'.2), ?_, fun b o e => ?_, ?_⟩
          · rw [et, lastC_snoc]
            rfl
          · rw [upd_ne (off_of e).1]
            exact s1012 _ _ (s10 _ _ e)
          · rw [upd_same, et, spread_snoc, List.map_append, List.map_replicate]
            rfl
        · rintro σ' H10 ⟨hi, y3, y4, rfl, s10, e10⟩
          have lws2 := hW8.len
          rw [List.length_map] at lws2
          rw [List.take_of_length_le (by omega)] at e10
          have nAz : ∀ {b : Addr} {o : HO}, H b = some o → b ≠ AL := fun e z => by rw [z, nA0] at e; cases e
          have s010 : Same H H10 := fun b o e => s10 _ _ (show off AL H9 b = some o by rw [off_ne (nAz e)]; exact s09 _ _ e)
          have eT10 := s10 _ _ (show off AL H9 TL = some _ by rw [off_ne ALT.symm]; exact eT9)
          refine ⟨_, rfl, _, rfl, _, rfl, q, C, dx, _, _, rfl, s010 _ _ h1, cl, Z.nT, ltt, ?_⟩
          exact rd_row (f := timesM U (g ++ [x])) (a := spread x.2 W3) (m := t) (Or.inl eT10) (Or.inl e10) okR G1.len l2 t0 t1 fun H' g f' a' m' s' n' M' T' => k H' g f' a' m' (s010.trans s') (s010.free n') M' T'
end
end My

namespace My.Rw
open PySem PySem.Spec PyProof.Rows L2
local macro_rules | `(tactic| walk_at "side") => `(tactic| first | (dsimp only; omega) | exact ⟨by omega, by omega⟩ | exact Or.inl ⟨by omega, by omega⟩ | exact Or.inr ⟨by omega, by omega⟩ | decide)
local macro_rules | `(tactic| walk_at "sq") => `(tactic| first | assumption | exact SqL.of (by assumption) | exact SqT.of (by assumption) | (refine L2.Same.seq (by assumption) ?_; walk_at "sq") | (refine L2.Same.seqT (by assumption) ?_; walk_at "sq") | exact Or.inl (by walk_at "sq") | exact Or.inr (by walk_at "sq"))
local macro_rules | `(tactic| walk_at "1") => `(tactic| first
  | refine ⟨_, rfl, iteT ?_⟩
  | refine ⟨_, rfl, iteF ?_⟩
  | refine ⟨_, rfl, ?_⟩
  | refine ⟨_, _, rfl, rfl, (by walk_at "side"), ?_⟩
  | refine ⟨_, _, rfl, rfl, ?_⟩
  | refine ⟨_, _, _, _, true, rfl, .ty _, .base (.int _), kit_ty (a := "int") (by decide +kernel), ?_⟩
  | refine ⟨_, _, _, _, false, rfl, .ty _, .base (.int _), kit_ty (a := "int") (by decide +kernel), ?_⟩
  | refine ⟨_, _, rfl, (by walk_at "sq"), ?_⟩
  | refine ⟨_, _, _, _, rfl, rfl, (by walk_at "sq"), (by first | rfl | assumption), ?_⟩
  | refine Or.inl ⟨_, _, _, _, rfl, rfl, (by walk_at "sq"), (by first | rfl | assumption), ?_⟩
  | refine Or.inr (Or.inl ⟨_, _, _, _, rfl, rfl, (by walk_at "sq"), (by first | rfl | assumption), ?_⟩)
  | refine ⟨_, _, rfl, Or.inl ⟨(by walk_at "sq"), ?_⟩⟩
  | refine ⟨rfl, ?_⟩
  | refine iteT ?_
  | refine iteF ?_
  | refine ⟨_, _, _, _, _, rfl, (by assumption), (by assumption), (by assumption), (by assumption), ?_⟩
  | refine Or.inl ⟨_, rfl, ?_⟩
  | refine ⟨_, _, rfl, (by walk_at "side"), ?_⟩
  | refine ⟨_, _, rfl, ?_⟩)
local macro_rules | `(tactic| walk_at "fld") => `(tactic| skip)
local macro_rules | `(tactic| walk_at "s") => `(tactic| repeat walk_at "1")
local macro_rules | `(tactic| walk_at "size") => `(tactic| first | exact Nat.le_of_ble_eq_true rfl | (simp only [List.length_map, List.length_append, List.length_cons, List.length_nil]; omega))
local macro_rules | `(tactic| walk_at "new") => `(tactic| (first | refine ⟨(by walk_at "size"), fun p hp => ?_⟩ | refine fun p hp => ?_); (generalize hq : upd _ p _ = H1); (obtain ⟨s, e⟩ := new_facts hp hq); clear hq)

/-- a told row: its three things, as lists and a number -/
def ToldAt (H : Hp) (p : Addr) (f a : List (Option Int)) (m : Int) : Prop := ∃ pf pa, H p = some (.tup [.ref pf, .ref pa, .int m]) ∧ H pf = some (.lst (f.map ov)) ∧ H pa = some (.lst (a.map ov))
theorem _root_.L2.Same.toldL {H H' : Hp} {p : Addr} {f a : List (Option Int)} {m : Int} (s : Same H H') (h : ToldAt H p f a m) : ToldAt H' p f a m := by
  obtain ⟨pf, pa, h1, h2, h3⟩ := h
  exact ⟨pf, pa, s _ _ h1, s _ _ h2, s _ _ h3⟩
section
variable {P : Program} {w : World} {K : PySem.W.Frag} {mg : Str → Option Value} {base : Heap} {C : Addr}
abbrev s_law_time : Stmt := topS 58
theorem sc_law_time : FnScope ["line", "n", "first", "again", "more", "thing"] ["line", "n"] (defScope s_law_time) := ⟨rfl, rfl, rfl, by decide +kernel, rfl, by decide +kernel, by decide +kernel⟩
def spTold : Sp := fun vs H Q _ => ∃ (p : Addr) (f a : List (Option Int)) (m : Int) (n : Nat), vs = [.ref p, .int n] ∧ ToldAt H p f a m ∧ Parts f a m ∧ Q (ov (tmR f a m n)) H
theorem ok_law_time (D : Df K mg "_law_time" s_law_time ["line", "n"]) (T : Txt mg) (mInt : mg "int" = none) : Own P w K mg base "_law_time" 1 ["line", "n"] spTold := by
  refine D.own sc_law_time (fun vs H Q E h => ?_) (fun fa cdv A outer s H vs Q E hr h => ?_)
  · obtain ⟨_, _, _, _, _, rfl, _⟩ := h
    rfl
  · obtain ⟨p, f, a, m, n, rfl, ⟨pf, pa, h1, h2, h3⟩, ok, k⟩ := h
    have l0 := List.length_pos_iff.mpr ok.ne
    have l1 := ok.la
    have m0 := ok.m0
    have m1 := ok.m1
    refine ⟨_, (pss_cons (ps_asg (pv 0) (pg_tup (by rfl) (pgs_cons (pg_name (i := 2) sc_law_time.nd rfl (Or.inl rfl)) (pgs_cons (pg_name (i := 3) sc_law_time.nd rfl (Or.inl rfl)) (pgs_cons (pg_name (i := 4) sc_law_time.nd rfl (Or.inl rfl)) pgs_nil)))))
  (pss_cons (ps_if (pt_cmpR op_lt (pv 1) (pe_callB call_len_seq (by rfl) T.len PySem.boot_len (pa_cons (pv 2) pa_nil)) (nomark _))
    (pss_one (ps_ret (pe_ix ix_list (pv 2) (pv 1) (fun _ _ => rfl))))
    pss_nil)
  (pss_cons (ps_set (i := 5) sc_law_time.nd rfl (Or.inl rfl) (pe_ix ix_list (pv 3) (pe_op op_mod (pe_op op_sub (pv 1) (pe_callB call_len_seq (by rfl) T.len PySem.boot_len (pa_cons (pv 2) pa_nil))) (pe_callB call_len_seq (by rfl) T.len PySem.boot_len (pa_cons (pv 3) pa_nil))) (fun _ _ => rfl)))
  (pss_one (ps_ret (pe_ifExp (pt_cmpR op_isN (pv 5) pe_non (nomark _)) pe_non (pe_op op_add (pv 5) (pe_op op_mul (pe_op op_fdiv (pe_callTy call_int1 (by rfl) mInt (by decide +kernel) (pa_cons (pe_op op_sub (pv 1) (pe_callB call_len_seq (by rfl) T.len PySem.boot_len (pa_cons (pv 2) pa_nil))) pa_nil)) (pe_callB call_len_seq (by rfl) T.len PySem.boot_len (pa_cons (pv 3) pa_nil))) (pv 4))))))))), ?_⟩
    walk_at "s"
    rw [List.length_map]
    refine ite2 (fun c => ?_) (fun c => ?_)
    · have c' : n < f.length := by
        have := of_decide_eq_true c
        omega
      have h0 : atI (f.map ov) (n : Int) = some (ov (gt f n)) := atI_nat (gt_of c')
      walk_at "s"
      have e : tmR f a m n = gt f n := if_pos c'
      rw [e] at k
      exact k
    · have c' : ¬ n < f.length := fun q => c (decide_eq_true (by omega))
      have en : (n : Int) - (f.length : Int) = ((n - f.length : Nat) : Int) := by omega
      have em : ((n : Int) - (f.length : Int)) % (a.length : Int) = (((n - f.length) % a.length : Nat) : Int) := by rw [en]; rfl
      have ed : ((n : Int) - (f.length : Int)) / (a.length : Int) = (((n - f.length) / a.length : Nat) : Int) := by rw [en]; rfl
      have lt : (n - f.length) % a.length < a.length := Nat.mod_lt _ l0
      have lla : (a.map ov).length = a.length := List.length_map ..
      have llf : (f.map ov).length = f.length := List.length_map ..
      have et : tmR f a m n = later1 (((n - f.length) / a.length : Nat) * m) (gt a ((n - f.length) % a.length)) := if_neg c'
      rw [et] at k
      walk_at "s"
      refine ⟨_, _, _, _, rfl, rfl, SqL.of h3, at_of (by show ((n : Int) - ((f.map ov).length : Int)) % ((a.map ov).length : Int) = _; rw [llf, lla]; exact em) (gt_of lt), ?_⟩
      walk_at "s"
      cases hg : gt a ((n - f.length) % a.length) with
      | none =>
        rw [hg] at k
        walk_at "s"
        exact k
      | some x =>
        rw [hg] at k
        walk_at "s"
        show Q (.int (x + (((n : Int) - ((f.map ov).length : Int)) / ((a.map ov).length : Int)) * m)) H
        rw [llf, lla, ed]
        exact k
abbrev s_law_count : Stmt := topS 59
theorem sc_law_count : FnScope ["line", "time", "n"] ["line", "time"] (defScope s_law_count) := ⟨rfl, rfl, rfl, by decide +kernel, rfl, by decide +kernel, by decide +kernel⟩
def spLCount : Sp := fun vs H Q _ => ∃ (p : Addr) (f a : List (Option Int)) (m t : Int), vs = [.ref p, .int t] ∧ ToldAt H p f a m ∧ Parts f a m ∧ (gt a 0 = none → Q .non H) ∧
  ∀ lo, gt a 0 = some lo → (m = 0 ∧ lo ≤ t → Q .non H) ∧ (¬ (m = 0 ∧ lo ≤ t) → ∃ N : Nat, (∀ n, n < N → upTo t (tmR f a m n) = true) ∧ upTo t (tmR f a m N) = false ∧ Q (.int N) H)
theorem ok_law_count (D : Df K mg "_law_count" s_law_count ["line", "time"]) (T : Txt mg) (o_law_time : Own P w K mg base "_law_time" 1 ["line", "n"] spTold) : Own P w K mg base "_law_count" 2 ["line", "time"] spLCount := by
  refine D.own sc_law_count (fun vs H Q E h => ?_) (fun fa cdv A outer s H vs Q E hr h => ?_)
  · obtain ⟨_, _, _, _, _, rfl, _⟩ := h
    rfl
  · obtain ⟨p, f, a, m, t, rfl, hT, ok, k0, k1⟩ := h
    obtain ⟨pf, pa, h1, h2, h3⟩ := id hT
    have l0 := List.length_pos_iff.mpr ok.ne
    have h0 : atI (a.map ov) 0 = some (ov (gt a 0)) := atI_nat (j := 0) (gt_of l0)
    refine ⟨_, (C8.pss_cut (ps_if (PW.pt (pw_or (pt_cmpR op_isN (pe_ix ix_list (pe_ix ix_tup (pv 0) pe_int (fun _ _ => rfl)) pe_int (fun _ _ => rfl)) pe_non (nomark _)) (pw_or1 (PW.pt (pw_and (pt_cmpR op_eq (pe_ix ix_tup (pv 0) pe_int (fun _ _ => rfl)) pe_int (nomark _)) (pw_and1 (pt_cmpR op_le (pe_ix ix_list (pe_ix ix_tup (pv 0) pe_int (fun _ _ => rfl)) pe_int (fun _ _ => rfl)) (pv 1) (nomark _))))))))
    (pss_one (ps_ret pe_non))
    pss_nil)
  (pss_cons (ps_set (i := 2) sc_law_count.nd rfl (Or.inl rfl) pe_int)
  (pss_cons (ps_while PassesOwn.never (PW.pt (pw_or (pt_cmpR op_isN (pe_own o_law_time (hr.mono (by decide)) (pa_cons (pv 0) (pa_cons (pv 2) pa_nil))) pe_non (nomark _)) (pw_or1 (pt_cmpR op_le (pe_own o_law_time (hr.mono (by decide)) (pa_cons (pv 0) (pa_cons (pv 2) pa_nil))) (pv 1) (nomark _)))))
    (pss_one (ps_set (i := 2) sc_law_count.nd rfl (Or.inl rfl) (pe_op op_add (pv 2) pe_int))))
  (pss_one (ps_ret (pv 2)))))), ?_⟩
    refine ⟨fun σ' H' => σ' = [some (.ref p), some (.int t), none] ∧ H' = H ∧ ∃ lo, gt a 0 = some lo ∧ ¬ (m = 0 ∧ lo ≤ t), ?_, ?_⟩
    · refine ⟨_, rfl, p, _, 1, _, rfl, rfl, SqT.of h1, atI_nat (j := 1) rfl, pa, _, 0, _, rfl, rfl, SqL.of h3, h0, rfl, _, rfl, ?_⟩
      cases hg : gt a 0 with
      | none =>
        refine iteT ?_
        exact k0 hg
      | some lo =>
        obtain ⟨k2, k3⟩ := k1 lo hg
        rw [hg] at h0
        refine iteF ?_
        refine ⟨_, rfl, p, _, 2, _, rfl, rfl, SqT.of h1, atI_nat (j := 2) rfl, rfl, _, rfl, ?_⟩
        by_cases hm : m = 0
        · rw [decide_eq_true (by rw [hm])]
          refine iteT ?_
          refine ⟨_, rfl, p, _, 1, _, rfl, rfl, SqT.of h1, atI_nat (j := 1) rfl, pa, _, 0, _, rfl, rfl, SqL.of h3, h0, _, rfl, _, _, rfl, rfl, _, rfl, ?_⟩
          by_cases ht : lo ≤ t
          · rw [decide_eq_true ht]
            refine iteT ?_
            exact k2 ⟨hm, ht⟩
          · rw [decide_eq_false ht]
            refine iteF ?_
            exact ⟨rfl, rfl, lo, rfl, fun z => ht z.2⟩
        · rw [decide_eq_false (fun z => hm (V.int.inj z))]
          refine iteF ?_
          exact ⟨rfl, rfl, lo, rfl, fun z => hm z.1⟩
    · rintro σ' H' ⟨rfl, rfl, lo, hg, hn⟩
      obtain ⟨_, k3⟩ := k1 lo hg
      obtain ⟨N, n1, n2, k⟩ := k3 hn
      refine ⟨fun i σ' H'' => ∃ n : Nat, i + n = N ∧ σ' = [some (.ref p), some (.int t), some (.int (n : Nat))] ∧ H'' = H', ⟨N, 0, by omega, rfl, rfl⟩, ?_⟩
      rintro i σ' H'' ⟨n, hin, rfl, rfl⟩
      refine ⟨_, rfl, _, rfl, p, f, a, m, n, rfl, hT, ok, ?_⟩
      have lt : upTo t (tmR f a m n) = true → n < N := fun hu => by
        rcases Nat.lt_or_ge n N with c | c
        · exact c
        · have : n = N := by omega
          rw [this, n2] at hu
          cases hu
      cases hx : tmR f a m n with
      | none =>
        refine ⟨rfl, _, rfl, ?_⟩
        refine iteT ?_
        have lt' := lt (by rw [hx]; rfl)
        exact ⟨fun σ2 H2 => σ2 = [some (.ref p), some (.int t), some (.int ((n : Int) + 1))] ∧ H2 = H'', fun σ2 H2 ⟨e1, e2⟩ => ⟨i - 1, by omega, n + 1, by omega, e1, e2⟩, ⟨_, rfl, _, _, rfl, rfl, rfl, rfl⟩⟩
      | some x =>
        refine ⟨rfl, _, rfl, ?_⟩
        refine iteF ?_
        refine ⟨_, rfl, _, rfl, p, f, a, m, n, rfl, hT, ok, ?_⟩
        rw [hx]
        refine ⟨_, rfl, _, _, rfl, rfl, _, rfl, ?_⟩
        by_cases c : x ≤ t
        · rw [decide_eq_true c]
          refine iteT ?_
          have lt' := lt (by rw [hx]; exact decide_eq_true c)
          exact ⟨fun σ2 H2 => σ2 = [some (.ref p), some (.int t), some (.int ((n : Int) + 1))] ∧ H2 = H'', fun σ2 H2 ⟨e1, e2⟩ => ⟨i - 1, by omega, n + 1, by omega, e1, e2⟩, ⟨_, rfl, _, _, rfl, rfl, rfl, rfl⟩⟩
        · rw [decide_eq_false c]
          refine iteF ?_
          have : n = N := by
            rcases Nat.lt_or_ge n N with d | d
            · have := n1 n d
              rw [hx] at this
              exact absurd (of_decide_eq_true this) c
            · omega
          subst this
          exact ⟨_, rfl, k⟩
end
end My.Rw

namespace My
open PySem PySem.Spec PyProof.Rows L2
local macro_rules | `(tactic| walk_at "side") => `(tactic| first | (dsimp only; omega) | exact ⟨by omega, by omega⟩ | exact Or.inl ⟨by omega, by omega⟩ | exact Or.inr ⟨by omega, by omega⟩ | decide)
local macro_rules | `(tactic| walk_at "sq") => `(tactic| first | assumption | exact SqL.of (by assumption) | exact SqT.of (by assumption) | (refine L2.Same.seq (by assumption) ?_; walk_at "sq") | (refine L2.Same.seqT (by assumption) ?_; walk_at "sq") | exact Or.inl (by walk_at "sq") | exact Or.inr (by walk_at "sq"))
local macro_rules | `(tactic| walk_at "1") => `(tactic| first
  | refine ⟨_, rfl, iteT ?_⟩
  | refine ⟨_, rfl, iteF ?_⟩
  | refine ⟨_, rfl, ?_⟩
  | refine ⟨_, _, rfl, rfl, (by walk_at "side"), ?_⟩
  | refine ⟨_, _, rfl, rfl, ?_⟩
  | refine ⟨_, _, _, _, true, rfl, .ty _, .base (.int _), kit_ty (a := "int") (by decide +kernel), ?_⟩
  | refine ⟨_, _, _, _, false, rfl, .ty _, .base (.int _), kit_ty (a := "int") (by decide +kernel), ?_⟩
  | refine ⟨_, _, rfl, (by walk_at "sq"), ?_⟩
  | refine ⟨_, _, _, _, rfl, rfl, (by walk_at "sq"), (by first | rfl | assumption), ?_⟩
  | refine Or.inl ⟨_, _, _, _, rfl, rfl, (by walk_at "sq"), (by first | rfl | assumption), ?_⟩
  | refine Or.inr (Or.inl ⟨_, _, _, _, rfl, rfl, (by walk_at "sq"), (by first | rfl | assumption), ?_⟩)
  | refine ⟨_, _, rfl, Or.inl ⟨(by walk_at "sq"), ?_⟩⟩
  | refine ⟨rfl, ?_⟩
  | refine iteT ?_
  | refine iteF ?_
  | refine ⟨_, _, _, _, _, rfl, (by assumption), (by assumption), (by assumption), (by assumption), ?_⟩
  | refine Or.inl ⟨_, rfl, ?_⟩
  | refine Or.inr ⟨_, rfl, ?_⟩
  | refine ⟨_, _, rfl, (by walk_at "side"), ?_⟩
  | refine ⟨_, _, rfl, ?_⟩)
local macro_rules | `(tactic| walk_at "fld") => `(tactic| skip)
local macro_rules | `(tactic| walk_at "s") => `(tactic| repeat walk_at "1")
local macro_rules | `(tactic| walk_at "size") => `(tactic| first | exact Nat.le_of_ble_eq_true rfl | (simp only [List.length_map, List.length_append, List.length_cons, List.length_nil]; omega))
local macro_rules | `(tactic| walk_at "new") => `(tactic| (first | refine ⟨(by walk_at "size"), fun p hp => ?_⟩ | refine fun p hp => ?_); (generalize hq : upd _ p _ = H1); (obtain ⟨s, e⟩ := new_facts hp hq); clear hq)
/-! the law's row, the least time -/
open Rw (ov)
def lessO (x y : Option Int) : Bool := match x with
  | none => false
  | some i => match y with
    | none => true
    | some j => decide (i < j)
def spLRow (R : Addr) : Sp := fun vs H Q _ => ∃ (p : Addr) (f a : List (Option Int)) (m : Int), vs = [.ref p] ∧ Rw.ToldAt H p f a m ∧ Rw.OkRow f a m ∧ Rw.Parts f a m ∧ ∀ H' q f' a' m', Same H H' → H q = none → Rw.MadeOf f a m f' a' m' → Rw.RowAt R H' q f' a' m' → Q (.ref q) H'
def spLess : Sp := fun vs H Q _ => ∃ x y : Option Int, vs = [cV x, cV y] ∧ Q (.bl (lessO x y)) H
def spLeastT : Sp := fun vs H Q _ => ∃ (v : V) (u : Option Int) (f : List Stp) (a : List Sti) (t m : Int) (n : Nat), vs = [v, .int n] ∧ Dv H v (rawD u f a t m) ∧ (a ≠ [] → 0 < t) ∧ 0 ≤ t ∧ t < 1000000 ∧ 0 ≤ m ∧ m < 1000000 ∧ f.length ≤ 1000 ∧ a.length ≤ 1000 ∧
  (u = none → Q .non H) ∧ (∀ U, u = some U → ((n : Int) < U → Q .non H) ∧ (U ≤ n → ∃ k : Nat, (∀ i, i < k → lessO (some n) (atL u f a t m (0 - 6 + (i : Nat))) = false) ∧ lessO (some n) (atL u f a t m (0 - 6 + (k : Nat))) = true ∧ ∀ H', Same H H' → Q (.int (0 - 6 + (k : Nat))) H'))
section
variable {P : Program} {w : World} {K : PySem.W.Frag} {mg : Str → Option Value} {base : Heap} {C D R : Addr}
abbrev s_law_row : Stmt := topS 60
theorem sc_law_row : FnScope ["line"] ["line"] (defScope s_law_row) := ⟨rfl, rfl, rfl, by decide +kernel, rfl, by decide +kernel, by decide +kernel⟩
theorem ok_law_row (F : Df K mg "_law_row" s_law_row ["line"]) (M : RowMk P w K mg base R) : Own P w K mg base "_law_row" 6 ["line"] (spLRow R) := by
  refine F.own sc_law_row (fun vs H Q E h => ?_) (fun fa cdv A outer s H vs Q E hr h => ?_)
  · obtain ⟨_, _, _, _, rfl, _⟩ := h
    rfl
  · obtain ⟨p, f, a, m, rfl, ⟨pf, pa, h1, h2, h3⟩, ok, pt, k⟩ := h
    refine ⟨_, (pss_one (ps_ret (pe_row M (hr.mono (by decide)) (pa_cons (pe_ix ix_tup (pv 0) pe_int (fun _ _ => rfl)) (pa_cons (pe_ix ix_tup (pv 0) pe_int (fun _ _ => rfl)) (pa_cons (pe_ix ix_tup (pv 0) pe_int (fun _ _ => rfl)) pa_nil)))))), ?_⟩
    refine ⟨_, rfl, p, _, 0, _, rfl, rfl, SqT.of h1, atI_nat (j := 0) rfl, _, rfl, p, _, 1, _, rfl, rfl, SqT.of h1, atI_nat (j := 1) rfl, _, rfl, p, _, 2, _, rfl, rfl, SqT.of h1, atI_nat (j := 2) rfl, ?_⟩
    have m1 := pt.m1
    exact rd_row (f := f) (a := a) (m := m) (Or.inl h2) (Or.inl h3) ok pt.lf pt.la pt.m0 (by omega) k
abbrev s_law_is_less : Stmt := topS 61
theorem sc_law_is_less : FnScope ["one", "other"] ["one", "other"] (defScope s_law_is_less) := ⟨rfl, rfl, rfl, by decide +kernel, rfl, by decide +kernel, by decide +kernel⟩
theorem ok_is_less (F : Df K mg "_law_is_less" s_law_is_less ["one", "other"]) : Own P w K mg base "_law_is_less" 1 ["one", "other"] spLess := by
  refine F.own sc_law_is_less (fun vs H Q E h => ?_) (fun fa cdv A outer s H vs Q E hr h => ?_)
  · obtain ⟨_, _, rfl, _⟩ := h
    rfl
  · obtain ⟨x, y, rfl, k⟩ := h
    refine ⟨_, (pss_one (ps_ret (pe_and (pe_cmpR op_notN (pv 0) pe_non (nomark _)) (pe_one (pe_or (pe_cmpR op_isN (pv 1) pe_non (nomark _)) (pe_one (pe_cmpR op_lt (pv 0) (pv 1) (nomark _)))))))), ?_⟩
    cases x with
    | none =>
      refine ⟨_, rfl, rfl, _, rfl, ?_⟩
      refine iteF ?_
      exact k
    | some i =>
      refine ⟨_, rfl, rfl, _, rfl, ?_⟩
      refine iteT ?_
      cases y with
      | none =>
        refine ⟨_, rfl, rfl, _, rfl, ?_⟩
        refine iteT ?_
        exact k
      | some j =>
        refine ⟨_, rfl, rfl, _, rfl, ?_⟩
        refine iteF ?_
        exact ⟨_, rfl, _, rfl, _, _, rfl, rfl, k⟩
abbrev s_law_least_time : Stmt := topS 62
theorem sc_law_least_time : FnScope ["raw", "n", "time"] ["raw", "n"] (defScope s_law_least_time) := ⟨rfl, rfl, rfl, by decide +kernel, rfl, by decide +kernel, by decide +kernel⟩
theorem ok_least_time (F : Df K mg "_law_least_time" s_law_least_time ["raw", "n"]) (o_law_is_less : Own P w K mg base "_law_is_less" 1 ["one", "other"] spLess) (o_law_at : Own P w K mg base "_law_at" 1 ["raw", "time"] spAt) : Own P w K mg base "_law_least_time" 2 ["raw", "n"] spLeastT := by
  refine F.own sc_law_least_time (fun vs H Q E h => ?_) (fun fa cdv A outer s H vs Q E hr h => ?_)
  · obtain ⟨_, _, _, _, _, _, _, rfl, _⟩ := h
    rfl
  · obtain ⟨v, u, f, a, t, m, n, rfl, hd, tp, t0, t1, m0, m1, lf, la, k0, k1⟩ := h
    obtain ⟨r, pf, pa, xf, xa, rfl, er, _⟩ := id hd.rawE
    refine ⟨_, (C8.pss_cut (ps_if (PW.pt (pw_or (pt_cmpR op_isN (pe_ix ix_tup (pv 0) pe_int (fun _ _ => rfl)) pe_non (nomark _)) (pw_or1 (pt_cmpR op_lt (pv 1) (pe_ix ix_tup (pv 0) pe_int (fun _ _ => rfl)) (nomark _)))))
    (pss_one (ps_ret pe_non))
    pss_nil)
  (pss_cons (ps_set (i := 2) sc_law_least_time.nd rfl (Or.inl rfl) (pe_op op_sub pe_int pe_int))
  (pss_cons (ps_while PassesOwn.never (pt_not (pt_val (pe_own o_law_is_less (hr.mono (by decide)) (pa_cons (pv 1) (pa_cons (pe_own o_law_at (hr.mono (by decide)) (pa_cons (pv 0) (pa_cons (pv 2) pa_nil))) pa_nil)))))
    (pss_one (ps_set (i := 2) sc_law_least_time.nd rfl (Or.inl rfl) (pe_op op_add (pv 2) pe_int))))
  (pss_one (ps_ret (pv 2)))))), ?_⟩
    refine ⟨fun σ' H' => σ' = [some (.ref r), some (.int (n : Nat)), none] ∧ H' = H ∧ ∃ U, u = some U ∧ U ≤ n, ?_, ?_⟩
    · refine ⟨_, rfl, r, _, 0, _, rfl, rfl, SqT.of er, atI_nat (j := 0) rfl, rfl, _, rfl, ?_⟩
      cases u with
      | none =>
        refine iteT ?_
        exact k0 rfl
      | some U =>
        refine iteF ?_
        refine ⟨_, rfl, _, rfl, r, _, 0, _, rfl, rfl, SqT.of er, atI_nat (j := 0) rfl, _, _, rfl, rfl, _, rfl, ?_⟩
        by_cases c : (n : Int) < U
        · rw [decide_eq_true c]
          refine iteT ?_
          exact (k1 U rfl).1 c
        · rw [decide_eq_false c]
          refine iteF ?_
          exact ⟨rfl, rfl, U, rfl, by omega⟩
    · rintro σ' H' ⟨rfl, rfl, U, hu, hn⟩
      obtain ⟨τ, n1, n2, k⟩ := (k1 U hu).2 hn
      refine ⟨_, _, rfl, rfl, ?_⟩
      refine ⟨fun i σ' H'' => ∃ j : Nat, i + j = τ ∧ σ' = [some (.ref r), some (.int (n : Nat)), some (.int (0 - 6 + (j : Nat)))] ∧ Same H' H'', ⟨τ, 0, by omega, rfl, Same.refl _⟩, ?_⟩
      rintro i σ' H'' ⟨j, hij, rfl, s1⟩
      refine ⟨_, rfl, _, rfl, _, rfl, .ref r, u, f, a, t, m, _, rfl, hd.same s1, tp, t0, t1, m0, m1, lf, la, fun H3 s3 => ?_⟩
      refine ⟨some (n : Nat), _, rfl, _, rfl, ?_⟩
      by_cases c : j < τ
      · rw [n1 j c]
        refine iteT ?_
        exact ⟨fun σ2 H2 => σ2 = [some (.ref r), some (.int (n : Nat)), some (.int (0 - 6 + (j : Nat) + 1))] ∧ H2 = H3, fun σ2 H2 ⟨e1, e2⟩ => ⟨i - 1, by omega, j + 1, by omega, by rw [e1]; show _ = [_, _, some (V.int (0 - 6 + ((j + 1 : Nat) : Int)))]; rw [show (0 : Int) - 6 + (j : Int) + 1 = 0 - 6 + ((j + 1 : Nat) : Int) by omega], by rw [e2]; exact s1.trans s3⟩, ⟨_, rfl, _, _, rfl, rfl, rfl, rfl⟩⟩
      · have : j = τ := by omega
        subst this
        rw [n2]
        refine iteF ?_
        exact ⟨_, rfl, k _ (s1.trans s3)⟩
end
end My

namespace My
open PySem PySem.Spec PyProof.Rows L2
local macro_rules | `(tactic| walk_at "side") => `(tactic| first | (dsimp only; omega) | exact ⟨by omega, by omega⟩ | exact Or.inl ⟨by omega, by omega⟩ | exact Or.inr ⟨by omega, by omega⟩ | decide)
local macro_rules | `(tactic| walk_at "sq") => `(tactic| first | assumption | exact SqL.of (by assumption) | exact SqT.of (by assumption) | (refine L2.Same.seq (by assumption) ?_; walk_at "sq") | (refine L2.Same.seqT (by assumption) ?_; walk_at "sq") | exact Or.inl (by walk_at "sq") | exact Or.inr (by walk_at "sq"))
local macro_rules | `(tactic| walk_at "1") => `(tactic| first
  | refine ⟨_, rfl, iteT ?_⟩
  | refine ⟨_, rfl, iteF ?_⟩
  | refine ⟨_, rfl, ?_⟩
  | refine ⟨_, _, rfl, rfl, (by walk_at "side"), ?_⟩
  | refine ⟨_, _, rfl, rfl, ?_⟩
  | refine ⟨_, _, _, _, true, rfl, .ty _, .base (.int _), kit_ty (a := "int") (by decide +kernel), ?_⟩
  | refine ⟨_, _, _, _, false, rfl, .ty _, .base (.int _), kit_ty (a := "int") (by decide +kernel), ?_⟩
  | refine ⟨_, _, rfl, (by walk_at "sq"), ?_⟩
  | refine ⟨_, _, _, _, rfl, rfl, (by walk_at "sq"), (by first | rfl | assumption), ?_⟩
  | refine Or.inl ⟨_, _, _, _, rfl, rfl, (by walk_at "sq"), (by first | rfl | assumption), ?_⟩
  | refine Or.inr (Or.inl ⟨_, _, _, _, rfl, rfl, (by walk_at "sq"), (by first | rfl | assumption), ?_⟩)
  | refine ⟨_, _, rfl, Or.inl ⟨(by walk_at "sq"), ?_⟩⟩
  | refine ⟨rfl, ?_⟩
  | refine iteT ?_
  | refine iteF ?_
  | refine ⟨_, _, _, _, _, rfl, (by assumption), (by assumption), (by assumption), (by assumption), ?_⟩
  | refine Or.inl ⟨_, rfl, ?_⟩
  | refine Or.inr ⟨_, rfl, ?_⟩
  | refine ⟨_, _, rfl, (by walk_at "side"), ?_⟩
  | refine ⟨_, _, rfl, ?_⟩)
local macro_rules | `(tactic| walk_at "fld") => `(tactic| skip)
local macro_rules | `(tactic| walk_at "s") => `(tactic| repeat walk_at "1")
local macro_rules | `(tactic| walk_at "size") => `(tactic| first | exact Nat.le_of_ble_eq_true rfl | (simp only [List.length_map, List.length_append, List.length_cons, List.length_nil]; omega))
local macro_rules | `(tactic| walk_at "new") => `(tactic| (first | refine ⟨(by walk_at "size"), fun p hp => ?_⟩ | refine fun p hp => ?_); (generalize hq : upd _ p _ = H1); (obtain ⟨s, e⟩ := new_facts hp hq); clear hq)
/-! a drawn row -/
open Rw (ov)
/-- times that never fall -/
structure UpL (L : List Int) (hi : Int) : Prop where
  asc : L.Pairwise (· ≤ ·)
  bd : ∀ x ∈ L, -1 ≤ x ∧ x ≤ hi
theorem UpL.app {L : List Int} {hi hi' : Int} (u : UpL L hi) (h0 : -1 ≤ hi) (h1 : hi ≤ hi') : UpL (L ++ [hi]) hi' := by
  refine ⟨List.pairwise_append.mpr ⟨u.asc, List.pairwise_singleton _ _, fun x hx y hy => ?_⟩, fun x hx => ?_⟩
  · rw [List.mem_singleton.mp hy]
    exact (u.bd x hx).2
  · rcases List.mem_append.mp hx with q | q
    · have := u.bd x q
      exact ⟨this.1, by omega⟩
    · rw [List.mem_singleton.mp q]
      exact ⟨h0, h1⟩
/-- what is drawn: no row at all, or nothing, then times -/
inductive DrawnL : List (Option Int) → List (Option Int) → Int → Prop
  | none : DrawnL [] [none] 0
  | some (k : Nat) (L R : List Int) (lo hi m : Int) (hk : k ≤ 2) (hL : L.length ≤ 3) (hR : R.length ≤ 3) (up : UpL (L ++ R) 40) (hlo : R.head? = some lo) (hhi : R.getLast? = some hi) (hm : (m = 0 ∧ hi = lo) ∨ (hi - lo ≤ m ∧ 1 ≤ m ∧ m ≤ 50)) : DrawnL (List.replicate k none ++ L.map some) (R.map some) m
def spLine : Sp := fun vs H Q _ => ∃ b : Addr, vs = [.ref b] ∧ BoxAt H b ∧ ∀ H' p f a m, DrawnL f a m → Bx b H H' → BoxAt H' b → Rw.ToldAt H' p f a m → Q (.ref p) H'
theorem ovs_int (L : List Int) : (L.map some).map ov = L.map V.int := by
  rw [List.map_map]
  rfl
theorem box_put {b L : Addr} {H H' : Hp} {xs : List V} (hb : BoxAt H' b) (n : L ≠ b) (bx : Bx b H H') (nL : H L = none) : BoxAt (upd H' L (.lst xs)) b ∧ Bx b H (upd H' L (.lst xs)) := by
  obtain ⟨x, y, z, h0, h1⟩ := hb
  refine ⟨⟨x, y, z, h0, by rw [upd_ne n.symm]; exact h1⟩, fun c o m e => ?_⟩
  rw [upd_ne (ne_of_none e nL)]
  exact bx c o m e
section
variable {P : Program} {w : World} {K : PySem.W.Frag} {mg : Str → Option Value} {base : Heap} {C D R : Addr}
abbrev s_law_line : Stmt := topS 57
theorem sc_law_line : FnScope ["box", "first", "time", "turn", "again", "form"] ["box"] (defScope s_law_line) := ⟨rfl, rfl, rfl, by decide +kernel, rfl, by decide +kernel, by decide +kernel⟩
set_option maxHeartbeats 8000000 in
theorem ok_line (F : Df K mg "_law_line" s_law_line ["box"]) (T : Txt mg) (o_law_take : Own P w K mg base "_law_take" 1 ["box", "many"] spTake) (o_law_pick : Own P w K mg base "_law_pick" 2 ["box", "some"] spPick) : Own P w K mg base "_law_line" 3 ["box"] spLine := by
  refine F.own sc_law_line (fun vs H Q E h => ?_) (fun fa cdv A outer s H vs Q E hr h => ?_)
  · obtain ⟨_, rfl, _⟩ := h
    rfl
  · obtain ⟨b, rfl, hb, k⟩ := h
    refine ⟨_, (pss_cons (ps_par (i := 1) (j := 2) (by rfl) sc_law_line.nd rfl rfl (by decide) rfl rfl (pa_cons (pe_op op_rep (pe_lst (pa_cons pe_non pa_nil)) (pe_own o_law_pick (hr.mono (by decide)) (pa_cons (pv 0) (pa_cons (pe_lst (pa_cons pe_int (pa_cons pe_int (pa_cons pe_int (pa_cons pe_int pa_nil))))) pa_nil)))) (pa_cons (pe_op op_sub (pe_own o_law_take (hr.mono (by decide)) (pa_cons (pv 0) (pa_cons pe_int pa_nil))) pe_int) pa_nil)) (by rfl))
  (pss_cons (ps_for PassesOwn.never rfl (pi_range1 (by rfl) T.range (pa_cons (pe_own o_law_take (hr.mono (by decide)) (pa_cons (pv 0) (pa_cons pe_int pa_nil))) pa_nil)) (pg_name (i := 3) sc_law_line.nd rfl (Or.inl rfl))
    (pss_cons (ps_expr (pe_bm PySem.F.plainAttrs_list PySem.F.slot_list_append PySem.F.type_list_append mt_append (pv 1) (pa_cons (pv 2) pa_nil)))
      (pss_one (ps_set (i := 2) sc_law_line.nd rfl (Or.inl rfl) (pe_op op_add (pv 2) (pe_own o_law_take (hr.mono (by decide)) (pa_cons (pv 0) (pa_cons pe_int pa_nil))))))))
  (pss_cons (ps_set (i := 4) sc_law_line.nd rfl (Or.inl rfl) (pe_lst pa_nil))
  (pss_cons (ps_for PassesOwn.never rfl (pi_range1 (by rfl) T.range (pa_cons (pe_op op_add pe_int (pe_own o_law_take (hr.mono (by decide)) (pa_cons (pv 0) (pa_cons pe_int pa_nil)))) pa_nil)) (pg_name (i := 3) sc_law_line.nd rfl (Or.inl rfl))
    (pss_cons (ps_expr (pe_bm PySem.F.plainAttrs_list PySem.F.slot_list_append PySem.F.type_list_append mt_append (pv 4) (pa_cons (pv 2) pa_nil)))
      (pss_one (ps_set (i := 2) sc_law_line.nd rfl (Or.inl rfl) (pe_op op_add (pv 2) (pe_own o_law_take (hr.mono (by decide)) (pa_cons (pv 0) (pa_cons pe_int pa_nil))))))))
  (pss_cons (ps_set (i := 5) sc_law_line.nd rfl (Or.inl rfl) (pe_own o_law_take (hr.mono (by decide)) (pa_cons (pv 0) (pa_cons pe_int pa_nil))))
  (pss_cons (ps_if (pt_cmpR op_eq (pv 5) pe_int (nomark _))
    (pss_one (ps_ret (pe_tup (pa_cons (pe_lst pa_nil) (pa_cons (pe_lst (pa_cons pe_non pa_nil)) (pa_cons pe_int pa_nil))))))
    pss_nil)
  (pss_cons (ps_if (pt_cmpR op_eq (pv 5) pe_int (nomark _))
    (pss_one (ps_ret (pe_tup (pa_cons (pv 1) (pa_cons (pe_slice sl_list (pv 4) po_none (po_some pe_int)) (pa_cons pe_int pa_nil))))))
    pss_nil)
  (pss_one (ps_ret (pe_tup (pa_cons (pv 1) (pa_cons (pv 4) (pa_cons (pe_op op_add (pe_op op_add (pe_op op_sub (pe_ix ix_list (pv 4) (pe_un un_neg pe_int) (fun _ _ => rfl)) (pe_ix ix_list (pv 4) pe_int (fun _ _ => rfl))) (pe_own o_law_take (hr.mono (by decide)) (pa_cons (pv 0) (pa_cons pe_int pa_nil)))) (pe_callTy call_int1 (by rfl) T.int (by decide +kernel) (pa_cons (pe_cmpR op_eq (pe_ix ix_list (pv 4) (pe_un un_neg pe_int) (fun _ _ => rfl)) (pe_ix ix_list (pv 4) pe_int (fun _ _ => rfl)) (nomark _)) pa_nil))) pa_nil))))))))))))), ?_⟩
    refine ⟨Nat.le_of_ble_eq_true rfl, fun p1 n1 => ?_⟩
    generalize hq : upd H p1 _ = H1 at *
    obtain ⟨s1, e1⟩ := new_facts n1 hq
    clear hq
    refine ⟨_, rfl, Nat.le_of_ble_eq_true rfl, fun p2 n2 => ?_⟩
    generalize hq : upd H1 p2 _ = H2 at *
    obtain ⟨s2, e2⟩ := new_facts n2 hq
    clear hq
    have b1 := hb.same s1
    have b2 := b1.same s2
    have p1b : p1 ≠ b := hb.ne n1
    refine ⟨b, p2, _, rfl, b2, b1.ne n2, e2, by decide, by decide, fun H3 x hx bx3 b3 => ?_⟩
    have e13 := bx3 _ _ p1b (s2 _ _ e1)
    obtain ⟨j, rfl, hj⟩ : ∃ j : Nat, x = .int (j : Nat) ∧ j ≤ 2 := by
      simp only [List.mem_cons, List.not_mem_nil, or_false] at hx
      rcases hx with rfl | rfl | rfl | rfl
      · exact ⟨0, rfl, by decide⟩
      · exact ⟨0, rfl, by decide⟩
      · exact ⟨1, rfl, by decide⟩
      · exact ⟨2, rfl, by decide⟩
    refine ⟨p1, (j : Nat), _, rfl, rfl, e13, by omega, by omega, ?_, fun FL nF => ?_⟩
    · show 1 * _ ≤ sizeLine
      exact Nat.le_of_lt (small2000 (by omega))
    rw [rep_flat]
    generalize hq : upd H3 FL _ = H4 at *
    obtain ⟨s4, e4⟩ := new_facts nF hq
    clear hq
    have b4 := b3.same s4
    have FLb : FL ≠ b := b3.ne nF
    have e4 : H4 FL = some (.lst ((List.replicate j none ++ ([] : List Int).map some).map ov)) := by
      rw [e4, List.map_nil, List.append_nil, List.map_replicate, Int.toNat_natCast]
      rfl
    have bx04 : Bx b H H4 := (Bx.of (s1.trans s2)).trans (bx3.trans (Bx.of s4))
    have nF0 : H FL = none := bx_free ((Bx.of (s1.trans s2)).trans bx3) nF FLb
    clear e13 e1 e2 bx3 s1 s2 s4
    refine ⟨_, rfl, b, 6, rfl, by decide, by decide, b4, fun H5 n hn bx5 b5 => ⟨_, _, rfl, rfl, _, _, rfl, ?_⟩⟩
    have e5 := bx5 _ _ FLb e4
    refine ⟨_, rfl, b, 4, rfl, by decide, by decide, b5, fun H6 n4 hn4 bx6 b6 => ⟨_, rfl, by omega, by omega, ?_⟩⟩
    have e6 := bx6 _ _ FLb e5
    have bx06 := bx04.trans (bx5.trans bx6)
    refine for_range (lo := 0) (n := n4) (fun i σ' H' => ∃ (L : List Int) (time : Int) (y : Option V), σ' = [some (.ref b), some (.ref FL), some (.int time), y, none, none] ∧ Bx b H H' ∧ BoxAt H' b ∧ H' FL = some (.lst ((List.replicate j none ++ L.map some).map ov)) ∧ UpL L time ∧ L.length = i ∧ -1 ≤ time ∧ time ≤ 4 + 3 * i) ?_ ?_ ?_
    · exact ⟨[], (n : Int) - 1, none, rfl, bx06, b6, e6, ⟨.nil, fun x h => nomatch h⟩, rfl, by omega, by omega⟩
    · rintro i σ' H7 hi ⟨L, time, y, rfl, bx7, b7, e7, up, hl, t0, t1⟩
      have sz : ((List.replicate j none ++ L.map some).map ov).length ≤ 100 := by
        rw [List.length_map, List.length_append, List.length_replicate, List.length_map]
        omega
      obtain ⟨b8, bx8⟩ := box_put (xs := (List.replicate j none ++ L.map some).map ov ++ [.int time]) b7 FLb bx7 nF0
      refine ⟨_, rfl, Or.inl ⟨rfl, _, SqL.of e7⟩, _, rfl, FL, _, _, rfl, rfl, e7, small2000 (by omega), ?_⟩
      refine ⟨_, rfl, _, rfl, b, 4, rfl, by decide, by decide, b8, fun H9 n2 hn2 bx9 b9 => ⟨_, _, rfl, rfl, ?_⟩⟩
      refine ⟨L ++ [time], time + (n2 : Int), some (.int (0 + (i : Int))), rfl, bx8.trans bx9, b9, ?_, up.app t0 (by omega), by rw [List.length_append, List.length_singleton, hl], by omega, by omega⟩
      rw [bx9 _ _ FLb upd_same, List.map_append, List.map_append, List.map_append, List.map_append, List.append_assoc]
      rfl
    · rintro σ' H7 ⟨L, time, y, rfl, bx7, b7, e7, up, hl, t0, t1⟩
      refine ⟨Nat.zero_le _, fun AL nA => ?_⟩
      generalize hq : upd H7 AL _ = H8 at *
      obtain ⟨s8, e8⟩ := new_facts nA hq
      clear hq
      have ALb : AL ≠ b := b7.ne nA
      have ALF : AL ≠ FL := fun z => by rw [z, e7] at nA; cases nA
      have nA0 : H AL = none := bx_free bx7 nA ALb
      have b8 := b7.same s8
      have bx8 := bx7.trans (Bx.of s8)
      have eF8 := s8 _ _ e7
      refine ⟨_, rfl, b, 3, rfl, by decide, by decide, b8, fun H9 n3 hn3 bx9 b9 => ⟨_, _, rfl, rfl, _, rfl, by omega, by omega, ?_⟩⟩
      have e9 : H9 AL = some (.lst ((([] : List Int).map some).map ov)) := bx9 _ _ ALb e8
      have eF9 := bx9 _ _ FLb eF8
      refine for_range (lo := 0) (n := 1 + n3) (fun i σ' H' => ∃ (R : List Int) (time2 : Int) (y : Option V), σ' = [some (.ref b), some (.ref FL), some (.int time2), y, some (.ref AL), none] ∧ Bx b H H' ∧ BoxAt H' b ∧ H' FL = some (.lst ((List.replicate j none ++ L.map some).map ov)) ∧ H' AL = some (.lst ((R.map some).map ov)) ∧ UpL (L ++ R) time2 ∧ R.length = i ∧ -1 ≤ time2 ∧ time2 ≤ 13 + 3 * i) ?_ ?_ ?_
      · exact ⟨[], time, y, rfl, bx8.trans bx9, b9, eF9, e9, by rw [List.append_nil]; exact up, rfl, t0, by omega⟩
      · rintro i σ' H10 hi ⟨R, time2, y, rfl, bx10, b10, eF10, e10, up2, hl2, t2, t3⟩
        obtain ⟨b11, bx11⟩ := box_put (xs := (R.map some).map ov ++ [.int time2]) b10 ALb bx10 nA0
        refine ⟨_, rfl, Or.inl ⟨rfl, _, SqL.of e10⟩, _, rfl, AL, _, _, rfl, rfl, e10, small2000 (by rw [List.length_map, List.length_map]; omega), ?_⟩
        refine ⟨_, rfl, _, rfl, b, 4, rfl, by decide, by decide, b11, fun H12 n5 hn5 bx12 b12 => ⟨_, _, rfl, rfl, ?_⟩⟩
        refine ⟨R ++ [time2], time2 + (n5 : Int), some (.int (0 + (i : Int))), rfl, bx11.trans bx12, b12, ?_, ?_, ?_, by rw [List.length_append, List.length_singleton, hl2], by omega, by omega⟩
        · exact bx12 _ _ FLb (by rw [upd_ne ALF.symm]; exact eF10)
        · rw [bx12 _ _ ALb upd_same, List.map_append, List.map_append]
          rfl
        · rw [← List.append_assoc]
          exact up2.app t2 (by omega)
      · rintro σ' H10 ⟨R, time2, y, rfl, bx10, b10, eF10, e10, up2, hl2, t2, t3⟩
        have up40 : UpL (L ++ R) 40 := ⟨up2.asc, fun x hx => by have := up2.bd x hx; omega⟩
        obtain ⟨lo, R', rfl⟩ : ∃ lo R', R = lo :: R' := by
          cases R with
          | nil =>
            rw [List.length_nil] at hl2
            omega
          | cons lo R' => exact ⟨lo, R', rfl⟩
        obtain ⟨hi, hhi⟩ : ∃ hi, (lo :: R').getLast? = some hi := by
          cases hg : (lo :: R').getLast? with
          | none => rw [List.getLast?_eq_none_iff] at hg; cases hg
          | some hi => exact ⟨hi, rfl⟩
        refine ⟨_, rfl, b, 10, rfl, by decide, by decide, b10, fun H11 fm hfm bx11 b11 => ?_⟩
        have eF11 := bx11 _ _ FLb eF10
        have e11 := bx11 _ _ ALb e10
        have bx := bx10.trans bx11
        clear bx10 bx11 eF10 e10 b10
        refine ⟨_, rfl, rfl, _, rfl, ?_⟩
        by_cases c0 : fm = 0
        · rw [decide_eq_true (by rw [c0]; rfl)]
          refine iteT ?_
          refine ⟨Nat.zero_le _, fun x1 m1 => ⟨Nat.le_of_ble_eq_true rfl, fun x2 m2 => ⟨Nat.le_of_ble_eq_true rfl, fun x3 m3 => ?_⟩⟩⟩
          generalize hq : upd H11 x1 _ = H12 at *
          obtain ⟨s12, e12⟩ := new_facts m1 hq
          clear hq
          generalize hq : upd H12 x2 _ = H13 at *
          obtain ⟨s13, e13⟩ := new_facts m2 hq
          clear hq
          generalize hq : upd H13 x3 _ = H14 at *
          obtain ⟨s14, e14⟩ := new_facts m3 hq
          clear hq
          have s1114 := s12.trans (s13.trans s14)
          exact k _ _ _ _ _ .none (bx.trans (Bx.of s1114)) (b11.same s1114) ⟨x1, x2, e14, s14 _ _ (s13 _ _ e12), s14 _ _ e13⟩
        · rw [decide_eq_false (fun z => c0 (by have := V.int.inj z; omega))]
          refine iteF ?_
          refine ⟨_, rfl, rfl, _, rfl, ?_⟩
          by_cases c1 : fm = 1
          · rw [decide_eq_true (by rw [c1]; rfl)]
            refine iteT ?_
            refine ⟨_, rfl, _, rfl, ?_⟩
            refine go_no ?_
            refine ⟨1, rfl, AL, _, rfl, SqL.of e11, fun x1 m1 => ⟨Nat.le_of_ble_eq_true rfl, fun x2 m2 => ?_⟩⟩
            generalize hq : upd H11 x1 _ = H12 at *
            obtain ⟨s12, e12⟩ := new_facts m1 hq
            clear hq
            generalize hq : upd H12 x2 _ = H13 at *
            obtain ⟨s13, e13⟩ := new_facts m2 hq
            clear hq
            rw [cut_to1] at e12
            have s1113 := s12.trans s13
            refine k _ _ _ _ _ (.some j L [lo] lo lo 0 hj (by omega) (by rw [List.length_singleton]; omega) ⟨?_, fun x hx => ?_⟩ rfl rfl (Or.inl ⟨rfl, rfl⟩)) (bx.trans (Bx.of s1113)) (b11.same s1113) ⟨FL, x1, e13, s1113 _ _ eF11, s13 _ _ e12⟩
            · have h := up40.asc
              rw [List.append_cons] at h
              exact (List.pairwise_append.mp h).1
            · exact up40.bd x (by
                rcases List.mem_append.mp hx with q | q
                · exact List.mem_append_left _ q
                · rw [List.mem_singleton.mp q]
                  exact List.mem_append_right _ (.head _))
          · rw [decide_eq_false (fun z => c1 (by have := V.int.inj z; omega))]
            refine iteF ?_
            have hlast : atI (((lo :: R').map some).map ov) (-1) = some (.int hi) := by
              refine Rw.atI_neg1 ?_
              rw [List.getLast?_map, List.getLast?_map, hhi]
              rfl
            have hfirst : atI (((lo :: R').map some).map ov) 0 = some (.int lo) := atI_nat (j := 0) rfl
            have hlt : lo ≤ hi := by
              have h := (List.pairwise_append.mp up40.asc).2.1
              have hm := List.mem_of_getLast? hhi
              rcases List.mem_cons.mp hm with q | q
              · omega
              · exact (List.pairwise_cons.mp h).1 hi q
            have bhi := up40.bd hi (List.mem_append_right _ (List.mem_of_getLast? hhi))
            have blo := up40.bd lo (List.mem_append_right _ (.head _))
            refine ⟨_, rfl, _, rfl, _, rfl, _, rfl, AL, _, _, _, rfl, rfl, SqL.of e11, hlast, _, rfl, AL, _, _, _, rfl, rfl, SqL.of e11, hfirst, _, _, rfl, rfl, ?_⟩
            refine ⟨_, rfl, b, 3, rfl, by decide, by decide, b11, fun H12 d hd bx12 b12 => ⟨_, _, rfl, rfl, ?_⟩⟩
            have eF12 := bx12 _ _ FLb eF11
            have e12 := bx12 _ _ ALb e11
            refine ⟨_, rfl, _, rfl, AL, _, _, _, rfl, rfl, SqL.of e12, hlast, _, rfl, AL, _, _, _, rfl, rfl, SqL.of e12, hfirst, rfl, ?_⟩
            have fin : ∀ (m : Int), hi - lo ≤ m → 1 ≤ m → m ≤ 50 → ∀ p, H12 p = none → Q (.ref p) (upd H12 p (.tup [.ref FL, .ref AL, .int m])) := fun m g1 g2 g3 p np => by
              have s13 := same_upd (o := .tup [.ref FL, .ref AL, .int m]) np
              exact k _ _ _ _ _ (.some j L (lo :: R') lo hi m hj (by omega) (by omega) up40 rfl hhi (Or.inr ⟨g1, g2, g3⟩)) (bx.trans (bx12.trans (Bx.of s13))) (b12.same s13) ⟨FL, AL, upd_same, s13 _ _ eF12, s13 _ _ e12⟩
            refine Or.inr ⟨_, rfl, _, _, rfl, rfl, Nat.le_of_ble_eq_true rfl, fun p np => ?_⟩
            refine fin _ ?_ ?_ ?_ p np
            · split <;> omega
            · by_cases e : hi = lo
              · rw [decide_eq_true (by rw [e]), if_pos rfl]
                omega
              · have : lo < hi := by omega
                split <;> omega
            · split <;> omega
end
end My

namespace My.Rw
open PySem PySem.Spec PyProof.Rows L2
theorem rises_some : ∀ (L : List Int) (l : Int), (∀ x ∈ L, l ≤ x) → L.Pairwise (· ≤ ·) → risesFrom (some l) (L.map some) = true
  | [], _, _, _ => rfl
  | x :: r, l, h, p => by
    have hx := h x List.mem_cons_self
    rw [List.pairwise_cons] at p
    show (if x < l then false else risesFrom (some x) (r.map some)) = true
    rw [if_neg (by omega)]
    exact rises_some r x p.1 p.2
theorem rises_all (L : List Int) (p : L.Pairwise (· ≤ ·)) : risesFrom none (L.map some) = true := by
  cases L with
  | nil => rfl
  | cons x r =>
    rw [List.pairwise_cons] at p
    exact rises_some r x p.1 p.2
theorem rises_none : ∀ (n : Nat) (R : List (Option Int)), risesFrom none (List.replicate n none ++ R) = risesFrom none R
  | 0, _ => rfl
  | n + 1, R => rises_none n R
theorem head_le {L : List Int} (p : L.Pairwise (· ≤ ·)) {lo x : Int} (h : L.head? = some lo) (hx : x ∈ L) : lo ≤ x := by
  cases L with
  | nil => cases h
  | cons y r =>
    have e : y = lo := Option.some.inj h
    subst e
    rw [List.pairwise_cons] at p
    rcases List.mem_cons.mp hx with rfl | q
    · exact Int.le_refl _
    · exact p.1 x q
theorem le_last {L : List Int} (p : L.Pairwise (· ≤ ·)) {hi x : Int} (h : L.getLast? = some hi) (hx : x ∈ L) : x ≤ hi := by
  obtain ⟨ys, rfl⟩ := List.getLast?_eq_some_iff.mp h
  rw [List.pairwise_append] at p
  rcases List.mem_append.mp hx with q | q
  · exact p.2.2 x q hi (List.mem_singleton.mpr rfl)
  · rw [List.mem_singleton.mp q]
    exact Int.le_refl _
/-- what a told row is: nothing, then times that never fall -/
structure ShapeG (f a : List (Option Int)) (m : Int) : Prop where
  ex : ∃ (nn : Nat) (fl al : List Int) (lo hi : Int), f = List.replicate nn none ++ fl.map some ∧ a = al.map some ∧ (fl ++ al).Pairwise (· ≤ ·) ∧ al.head? = some lo ∧ al.getLast? = some hi ∧ hi - lo ≤ m ∧ m ≤ 999999 ∧ nn ≤ 200 ∧ nn + fl.length ≤ 400 ∧ al.length ≤ 400 ∧ (∀ x ∈ fl ++ al, True ∧ True)
section
variable {f a : List (Option Int)} {m : Int}
theorem ShapeG.ok (S : ShapeG f a m) : OkRow f a m := by
  obtain ⟨nn, fl, al, lo, hi, rfl, rfl, hp, hlo, hhi, h1, h2, hn, hf, ha, hb⟩ := S.ex
  have hp' := List.pairwise_append.mp hp
  have hal : al ≠ [] := fun e => by
    rw [e] at hlo
    cases hlo
  refine ⟨?_, rises_all al hp'.2.1, fun e => hal (List.map_eq_nil_iff.mp e), Or.inl ⟨lo, hi, ?_, ?_, fun e he => ?_, ?_, h1⟩⟩
  · rw [rises_none]
    exact rises_all fl hp'.1
  · rw [List.head?_map, hlo]
    rfl
  · rw [List.getLast?_map, hhi]
    rfl
  · have := List.mem_of_getLast? he
    rcases List.mem_append.mp this with q | q
    · have := (List.mem_replicate.mp q).2
      cases this
    · obtain ⟨x, hx, e1⟩ := List.mem_map.mp q
      have e2 : x = e := Option.some.inj e1
      rw [← e2]
      exact hp'.2.2 x hx lo (List.mem_of_mem_head? hlo)
  · have := head_le hp'.2.1 hlo (List.mem_of_getLast? hhi)
    omega
theorem ShapeG.parts (S : ShapeG f a m) : Parts f a m := by
  obtain ⟨nn, fl, al, lo, hi, rfl, rfl, hp, hlo, hhi, h1, h2, hn, hf, ha, hb⟩ := S.ex
  have hp' := List.pairwise_append.mp hp
  have hle := head_le hp'.2.1 hlo (List.mem_of_getLast? hhi)
  have b1 := hb lo (List.mem_append_right _ (List.mem_of_mem_head? hlo))
  have b2 := hb hi (List.mem_append_right _ (List.mem_of_getLast? hhi))
  refine ⟨fun e => ?_, ?_, ?_, by omega, by omega⟩
  · rw [List.map_eq_nil_iff.mp e] at hlo
    cases hlo
  · rw [List.length_append, List.length_replicate, List.length_map]
    omega
  · rw [List.length_map]
    omega
theorem gt_mapsome {L : List Int} {i : Nat} (h : i < L.length) : gt (L.map some) i = some L[i] := by
  rw [gt_lt (by rw [List.length_map]; exact h), List.getElem_map]
theorem ShapeG.mono (S : ShapeG f a m) (n : Nat) : leO (tmR f a m n) (tmR f a m (n + 1)) := by
  have ok := S.ok
  have hne : 0 < a.length := List.length_pos_iff.mpr ok.ne
  obtain ⟨nn, fl, al, lo, hi, rfl, rfl, hp, hlo, hhi, h1, h2, hn, hf, ha, hb⟩ := S.ex
  have hp' := List.pairwise_append.mp hp
  rw [List.length_map] at hne
  have hl : (List.replicate nn none ++ fl.map some).length = nn + fl.length := by rw [List.length_append, List.length_replicate, List.length_map]
  have hla : (al.map some).length = al.length := List.length_map ..
  by_cases c : n + 1 < nn + fl.length + al.length
  · rw [tm_lt (n := n) (by omega), tm_lt (n := n + 1) (by omega)]
    have e : (List.replicate nn none ++ fl.map some ++ al.map some) = List.replicate nn none ++ (fl ++ al).map some := by rw [List.append_assoc, List.map_append]
    rw [e]
    by_cases cn : n < nn
    · have : gt (List.replicate nn none ++ (fl ++ al).map some) n = none := by
        unfold gt
        rw [List.getElem?_append_left (by rw [List.length_replicate]; exact cn), List.getElem?_replicate]
        rw [if_pos cn]
        rfl
      rw [this]
      trivial
    · have g : ∀ i, nn ≤ i → i < nn + (fl ++ al).length → gt (List.replicate nn none ++ (fl ++ al).map some) i = gt ((fl ++ al).map some) (i - nn) := fun i h _ => by
        unfold gt
        rw [List.getElem?_append_right (by rw [List.length_replicate]; exact h), List.length_replicate]
      have hlen : (fl ++ al).length = fl.length + al.length := List.length_append
      rw [g n (by omega) (by omega), g (n + 1) (by omega) (by omega), gt_mapsome (i := n - nn) (by omega), gt_mapsome (i := n + 1 - nn) (by omega)]
      exact List.pairwise_iff_getElem.mp hp (n - nn) (n + 1 - nn) (by omega) (by omega) (by omega)
  · have tma : ∀ i, nn + fl.length ≤ i → tmR (List.replicate nn none ++ fl.map some) (al.map some) m i = later1 (((i - (nn + fl.length)) / al.length : Nat) * m) (gt (al.map some) ((i - (nn + fl.length)) % al.length)) := fun i h => by
      unfold tmR
      rw [hl, hla, if_neg (by omega)]
    by_cases c0 : n < nn + fl.length
    · have : al.length = 0 := by omega
      omega
    · rw [tma n (by omega), tma (n + 1) (by omega)]
      have e1 : n + 1 - (nn + fl.length) = (n - (nn + fl.length)) + 1 := by omega
      rw [e1]
      generalize n - (nn + fl.length) = i
      have hr : i % al.length < al.length := Nat.mod_lt _ hne
      rw [gt_mapsome hr]
      by_cases cr : i % al.length + 1 < al.length
      · have d1 : (i + 1) / al.length = i / al.length := by
          rw [Nat.succ_div, if_neg, Nat.add_zero]
          intro hd
          have := Nat.mod_eq_zero_of_dvd hd
          rw [Nat.add_mod, Nat.mod_eq_of_lt (a := 1) (by omega), Nat.mod_eq_of_lt cr] at this
          omega
        have d2 : (i + 1) % al.length = i % al.length + 1 := by
          rw [Nat.add_mod, Nat.mod_eq_of_lt (a := 1) (by omega), Nat.mod_eq_of_lt cr]
        have hrr : (i + 1) % al.length < al.length := by omega
        rw [gt_mapsome hrr, d1]
        have := List.pairwise_iff_getElem.mp hp'.2.1 (i % al.length) ((i + 1) % al.length) hr hrr (by omega)
        show al[i % al.length] + _ ≤ al[(i + 1) % al.length] + _
        omega
      · have er : i % al.length = al.length - 1 := by omega
        have hd : al.length ∣ i + 1 := by
          refine Nat.dvd_of_mod_eq_zero ?_
          by_cases h1 : al.length = 1
          · rw [h1]
            exact Nat.mod_one _
          · rw [Nat.add_mod, Nat.mod_eq_of_lt (a := 1) (by omega), er, Nat.sub_add_cancel (by omega), Nat.mod_self]
        have d1 : (i + 1) / al.length = i / al.length + 1 := by rw [Nat.succ_div, if_pos hd]
        have d2 : (i + 1) % al.length = 0 := Nat.mod_eq_zero_of_dvd hd
        rw [gt_mapsome (i := (i + 1) % al.length) (by omega), d1]
        have m1 : al[i % al.length] ≤ hi := le_last hp'.2.1 hhi (List.getElem_mem hr)
        have m2 : lo ≤ al[(i + 1) % al.length]'(by omega) := head_le hp'.2.1 hlo (List.getElem_mem _)
        show al[i % al.length] + ((i / al.length : Nat) : Int) * m ≤ al[(i + 1) % al.length]'(by omega) + ((i / al.length + 1 : Nat) : Int) * m
        rw [show ((i / al.length + 1 : Nat) : Int) = ((i / al.length : Nat) : Int) + 1 by omega, Int.add_mul, Int.one_mul]
        omega

theorem ShapeG.ne (S : ShapeG f a m) : 0 < a.length := List.length_pos_iff.mpr S.ok.ne
theorem ShapeG.first (S : ShapeG f a m) : ∃ lo, tmR f a m f.length = some lo ∧ True ∧ True := by
  have hne : 0 < a.length := S.ne
  obtain ⟨nn, fl, al, lo, hi, rfl, rfl, hp, hlo, hhi, h1, h2, hn, hf, ha, hb⟩ := S.ex
  have b1 := hb lo (List.mem_append_right _ (List.mem_of_mem_head? hlo))
  refine ⟨lo, ?_, b1.1, b1.2⟩
  have := tm_a (f := List.replicate nn none ++ fl.map some) (m := m) 0 hne
  rw [Nat.zero_mul, Nat.add_zero, Int.natCast_zero, Int.zero_mul, later1_zero] at this
  rw [this]
  cases al with
  | nil => cases hlo
  | cons w r => exact hlo
theorem ShapeG.live (S : ShapeG f a m) (n : Nat) (h : f.length ≤ n) : ∃ x, tmR f a m n = some x := by
  obtain ⟨lo, h1, _⟩ := S.first
  have h2 := mono_all S.mono h
  rw [h1] at h2
  cases e : tmR f a m n with
  | none =>
    rw [e] at h2
    exact h2.elim
  | some x => exact ⟨x, rfl⟩
/-- a row whose parts are told off monotone times is right -/
theorem rises_from : ∀ (k : Nat) (g : Nat → Option Int), (∀ n, leO (g n) (g (n + 1))) → risesFrom (g 0) ((List.range k).map fun i => g (i + 1)) = true
  | 0, g, _ => by cases g 0 <;> rfl
  | k + 1, g, h => by
    rw [List.range_succ_eq_map, List.map_cons, List.map_map]
    have ih := rises_from k (fun n => g (n + 1)) (fun n => h (n + 1))
    have h0 := h 0
    show risesFrom (g 0) (g 1 :: ((List.range k).map fun i => g (i + 1 + 1))) = true
    have ih' : risesFrom (g 1) ((List.range k).map fun i => g (i + 1 + 1)) = true := ih
    cases e0 : g 0 with
    | none => exact ih'
    | some l =>
      cases e1 : g 1 with
      | none =>
        rw [e0, show (0 : Nat) + 1 = 1 from rfl, e1] at h0
        exact h0.elim
      | some x =>
        rw [e0, show (0 : Nat) + 1 = 1 from rfl, e1] at h0
        have h0' : l ≤ x := h0
        rw [e1] at ih'
        show (if x < l then false else risesFrom (some x) _) = true
        rw [if_neg (by omega)]
        exact ih'
theorem rises_of (k : Nat) (g : Nat → Option Int) (h : ∀ n, leO (g n) (g (n + 1))) : risesFrom none ((List.range k).map g) = true := by
  cases k with
  | zero => rfl
  | succ k =>
    rw [List.range_succ_eq_map, List.map_cons, List.map_map]
    exact rises_from k g h
theorem ok_of_mono {s : Nat → Option Int} {B T : Nat} {M : Int} (mono : ∀ n, leO (s n) (s (n + 1))) (live : ∀ n, B ≤ n → ∃ x, s n = some x) (hT : 0 < T) (hM : 0 ≤ M) (hg : s (B + T) = later1 M (s B)) :
    OkRow ((List.range B).map s) ((List.range T).map fun i => s (B + i)) M := by
  obtain ⟨lo, hlo⟩ := live B (Nat.le_refl _)
  obtain ⟨hi, hhi⟩ := live (B + (T - 1)) (by omega)
  have mono' : ∀ i j, i ≤ j → leO (s i) (s j) := fun i j h => by
    obtain ⟨d, rfl⟩ := Nat.le.dest h
    induction d with
    | zero => exact leO_refl _
    | succ d ih => exact leO_trans (ih (by omega)) (mono (i + d))
  refine ⟨rises_of B s mono, rises_of T (fun i => s (B + i)) (fun n => mono (B + n)), fun e => ?_, Or.inl ⟨lo, hi, ?_, ?_, fun e he => ?_, hM, ?_⟩⟩
  · have := congrArg List.length e
    rw [List.length_map, List.length_range] at this
    simp at this
    omega
  · cases T with
    | zero => omega
    | succ T =>
      rw [List.range_succ_eq_map, List.map_cons, List.head?_cons, Nat.add_zero, hlo]
  · cases T with
    | zero => omega
    | succ T =>
      rw [List.range_succ, List.map_append, List.map_cons, List.map_nil, List.getLast?_concat]
      rw [show T + 1 - 1 = T by omega] at hhi
      rw [hhi]
  · cases B with
    | zero => cases he
    | succ B =>
      rw [List.range_succ, List.map_append, List.map_cons, List.map_nil, List.getLast?_concat] at he
      have e1 : s B = some e := Option.some.inj he
      have := mono B
      rw [e1, hlo] at this
      exact this
  · have h1 := mono' (B + (T - 1)) (B + T) (by omega)
    rw [hg, hlo, hhi] at h1
    have h2 : hi ≤ lo + M := h1
    omega
end
end My.Rw

namespace My
open PySem PySem.Spec PyProof.Rows L2
local macro_rules | `(tactic| walk_at "side") => `(tactic| first | (dsimp only; omega) | exact ⟨by omega, by omega⟩ | exact Or.inl ⟨by omega, by omega⟩ | exact Or.inr ⟨by omega, by omega⟩ | decide)
local macro_rules | `(tactic| walk_at "sq") => `(tactic| first | assumption | exact SqL.of (by assumption) | exact SqT.of (by assumption) | (refine L2.Same.seq (by assumption) ?_; walk_at "sq") | (refine L2.Same.seqT (by assumption) ?_; walk_at "sq") | exact Or.inl (by walk_at "sq") | exact Or.inr (by walk_at "sq"))
local macro_rules | `(tactic| walk_at "1") => `(tactic| first
  | refine ⟨_, rfl, iteT ?_⟩
  | refine ⟨_, rfl, iteF ?_⟩
  | refine ⟨_, rfl, ?_⟩
  | refine ⟨_, _, rfl, rfl, (by walk_at "side"), ?_⟩
  | refine ⟨_, _, rfl, rfl, ?_⟩
  | refine ⟨_, _, _, _, true, rfl, .ty _, .base (.int _), kit_ty (a := "int") (by decide +kernel), ?_⟩
  | refine ⟨_, _, _, _, false, rfl, .ty _, .base (.int _), kit_ty (a := "int") (by decide +kernel), ?_⟩
  | refine ⟨_, _, rfl, (by walk_at "sq"), ?_⟩
  | refine ⟨_, _, _, _, rfl, rfl, (by walk_at "sq"), (by first | rfl | assumption), ?_⟩
  | refine Or.inl ⟨_, _, _, _, rfl, rfl, (by walk_at "sq"), (by first | rfl | assumption), ?_⟩
  | refine Or.inr (Or.inl ⟨_, _, _, _, rfl, rfl, (by walk_at "sq"), (by first | rfl | assumption), ?_⟩)
  | refine ⟨_, _, rfl, Or.inl ⟨(by walk_at "sq"), ?_⟩⟩
  | refine ⟨rfl, ?_⟩
  | refine iteT ?_
  | refine iteF ?_
  | refine ⟨_, _, _, _, _, rfl, (by assumption), (by assumption), (by assumption), (by assumption), ?_⟩
  | refine Or.inl ⟨_, rfl, ?_⟩
  | refine Or.inr ⟨_, rfl, ?_⟩
  | refine ⟨_, _, rfl, (by walk_at "side"), ?_⟩
  | refine ⟨_, _, rfl, ?_⟩)
local macro_rules | `(tactic| walk_at "fld") => `(tactic| skip)
local macro_rules | `(tactic| walk_at "s") => `(tactic| repeat walk_at "1")
local macro_rules | `(tactic| walk_at "size") => `(tactic| first | exact Nat.le_of_ble_eq_true rfl | (simp only [List.length_map, List.length_append, List.length_cons, List.length_nil]; omega))
local macro_rules | `(tactic| walk_at "new") => `(tactic| (first | refine ⟨(by walk_at "size"), fun p hp => ?_⟩ | refine fun p hp => ?_); (generalize hq : upd _ p _ = H1); (obtain ⟨s, e⟩ := new_facts hp hq); clear hq)
/-! rows by their times, and what they count -/
open Rw (leO upTo tmR gt cntR Qp later1)
/-- v is how many of r are at t at most; nothing for endlessly many -/
def CntOf (r : Nat → Option Int) (t : Int) (v : Option Int) : Prop := (v = none ∧ ∀ n, upTo t (r n) = true) ∨ ∃ N : Nat, v = some (N : Int) ∧ ∀ n, upTo t (r n) = decide (n < N)
theorem CntOf.fn {r : Nat → Option Int} {t : Int} {v v' : Option Int} (h : CntOf r t v) (h' : CntOf r t v') : v = v' := by
  rcases h with ⟨rfl, a⟩ | ⟨N, rfl, a⟩
  · rcases h' with ⟨rfl, _⟩ | ⟨N', rfl, b⟩
    · rfl
    · have := b N'
      rw [a N', decide_eq_false (Nat.lt_irrefl _)] at this
      cases this
  · rcases h' with ⟨rfl, b⟩ | ⟨N', rfl, b⟩
    · have := a N
      rw [b N, decide_eq_false (Nat.lt_irrefl _)] at this
      cases this
    · have one : ∀ {N N' : Nat}, (∀ n, upTo t (r n) = decide (n < N)) → (∀ n, upTo t (r n) = decide (n < N')) → ¬ N < N' := fun {N N'} a b lt => by
        have := a N
        rw [b N, decide_eq_true lt, decide_eq_false (Nat.lt_irrefl _)] at this
        cases this
      have := one a b
      have := one b a
      rw [show N = N' by omega]
theorem opt_upTo {x y : Option Int} (h : ∀ t, upTo t x = upTo t y) : x = y := by
  cases x with
  | none =>
    cases y with
    | none => rfl
    | some j =>
      have := h (j - 1)
      have e : upTo (j - 1) (some j) = false := decide_eq_false (by omega)
      rw [e] at this
      cases this
  | some i =>
    cases y with
    | none =>
      have := h (i - 1)
      have e : upTo (i - 1) (some i) = false := decide_eq_false (by omega)
      rw [e] at this
      cases this
    | some j =>
      have h1 := h i
      have h2 := h j
      have e1 : upTo i (some i) = true := decide_eq_true (Int.le_refl _)
      have e2 : upTo j (some j) = true := decide_eq_true (Int.le_refl _)
      rw [e1] at h1
      rw [e2] at h2
      have a1 : j ≤ i := of_decide_eq_true h1.symm
      have a2 : i ≤ j := of_decide_eq_true h2
      rw [show i = j by omega]
theorem row_of_cnt {r r' : Nat → Option Int} {c : Int → Option Int} (h : ∀ t, CntOf r t (c t)) (h' : ∀ t, CntOf r' t (c t)) (n : Nat) : r n = r' n := by
  refine opt_upTo fun t => ?_
  rcases h t with ⟨e, a⟩ | ⟨N, e, a⟩
  · rcases h' t with ⟨_, b⟩ | ⟨N', e', _⟩
    · rw [a, b]
    · rw [e] at e'
      cases e'
  · rcases h' t with ⟨e', _⟩ | ⟨N', e', b⟩
    · rw [e] at e'
      cases e'
    · rw [e] at e'
      have : N = N' := by have := Option.some.inj e'; omega
      rw [a, b, this]
/-- a made row that goes -/
structure RowM (B : Nat) (f a : List (Option Int)) (m : Int) : Prop where
  T0 : 0 < a.length
  m0 : 0 ≤ m
  m1 : m < 1000000
  mono : ∀ n, leO (tmR f a m n) (tmR f a m (n + 1))
  live : ∀ n, f.length ≤ n → ∃ x, tmR f a m n = some x
  can : Rw.Canon (tmR f a m) a.length f.length m
  len : f.length + a.length ≤ B
theorem rowM_of {B : Nat} {f0 a0 f a : List (Option Int)} {m0 m : Int} (S : Rw.ShapeG f0 a0 m0) (M : Rw.MadeOf f0 a0 m0 f a m) (hB : f0.length + a0.length ≤ B) : RowM B f a m ∧ ∀ n, tmR f a m n = tmR f0 a0 m0 n := by
  have tm := Rw.made_times M S.ne
  have tmf : tmR f a m = tmR f0 a0 m0 := funext tm
  have lv : ∀ n, f0.length ≤ n → tmR f0 a0 m0 n ≠ none := fun n hn e => by
    obtain ⟨x, hx⟩ := S.live n hn
    rw [hx] at e
    cases e
  obtain ⟨t, b, C, h1, h2, ef, ea⟩ := Rw.made_canon M S.ne lv
  have lf : f.length = b := by rw [ef, List.length_map, List.length_range]
  have la : a.length = t := by rw [ea, List.length_map, List.length_range]
  have live : ∀ n, b ≤ n → ∃ x, tmR f0 a0 m0 n = some x := fun n hn => by
    cases e : tmR f0 a0 m0 n with
    | some x => exact ⟨x, rfl⟩
    | none =>
      have := C.qp.iter hn f0.length
      rw [e] at this
      refine absurd this (lv _ ?_)
      have h : f0.length * 1 ≤ f0.length * t := Nat.mul_le_mul_left _ C.pos
      omega
  obtain ⟨x, hx⟩ := live b (Nat.le_refl _)
  have mm := Rw.mono_all S.mono (i := b) (j := b + t) (by omega)
  rw [C.qp b (Nat.le_refl _), hx] at mm
  have m00 : x ≤ x + m := mm
  obtain ⟨y, hy⟩ := live (b + f0.length) (by omega)
  have q0 := Rw.tm_qp (f := f0) (m := m0) S.ne (b + f0.length) (by omega)
  have q1 := C.qp (b + f0.length) (by omega)
  have mm2 := Rw.mono_all S.mono (i := b + f0.length + t) (j := b + f0.length + a0.length) (by omega)
  rw [q0, q1, hy] at mm2
  have m01 : y + m ≤ y + m0 := mm2
  have b1 : m0 ≤ 999999 := by
    obtain ⟨_, _, _, _, _, _, _, _, _, _, _, h, _⟩ := S.ex
    exact h
  refine ⟨⟨by rw [la]; exact C.pos, by omega, by omega, fun n => ?_, fun n hn => ?_, ?_, by omega⟩, tm⟩
  · rw [tmf]
    exact S.mono n
  · rw [tmf]
    exact live n (by omega)
  · rw [tmf, la, lf]
    exact C
section
variable {B : Nat} {f a : List (Option Int)} {m : Int}
theorem RowM.first (h : RowM B f a m) : ∃ lo, gt a 0 = some lo ∧ tmR f a m f.length = some lo := by
  obtain ⟨lo, e⟩ := h.live f.length (Nat.le_refl _)
  refine ⟨lo, ?_, e⟩
  have := Rw.tm_a (f := f) (m := m) 0 h.T0
  rw [Nat.zero_mul, Nat.add_zero, Int.natCast_zero, Int.zero_mul, Rw.later1_zero, e] at this
  exact this.symm
theorem RowM.all (h : RowM B f a m) {i j : Nat} (hij : i ≤ j) : leO (tmR f a m i) (tmR f a m j) := Rw.mono_all h.mono hij
theorem RowM.qp (h : RowM B f a m) : Qp (tmR f a m) f.length a.length m := h.can.qp
theorem RowM.cnt (h : RowM B f a m) (t : Int) : CntOf (tmR f a m) t (cntR f a m t) := by
  obtain ⟨lo, g0, e⟩ := h.first
  by_cases c : t < lo ∨ 0 < m
  · obtain ⟨N, e1, e2⟩ := Rw.cnt_spec h.T0 h.m0 (fun i j q => h.all q) g0 c
    exact Or.inr ⟨N, e1, e2⟩
  · have m0 := h.m0
    have hm : m = 0 := by omega
    subst hm
    refine Or.inl ⟨?_, fun n => ?_⟩
    · unfold cntR
      rw [g0]
      exact if_pos ⟨rfl, by omega⟩
    · have q := h.qp.iter (Nat.le_refl _) n
      rw [e, Int.mul_zero, Rw.later1_zero] at q
      have le := h.all (i := n) (j := f.length + n * a.length) (by
        have : n * 1 ≤ n * a.length := Nat.mul_le_mul_left _ h.T0
        omega)
      rw [q] at le
      exact Rw.upTo_le le (decide_eq_true (by omega))
theorem RowM.parts (h : RowM B f a m) (hB : B ≤ 400) : Rw.Parts f a m := by
  have h1 := h.len
  have h2 := h.m0
  have h3 := h.m1
  have h4 := h.T0
  exact ⟨fun e => by rw [e] at h4; exact absurd h4 (by decide), by omega, by omega, h2, by omega⟩
theorem RowM.somes (h : RowM B f a m) : ∀ x ∈ a, x ≠ none := fun x hx e => by
  obtain ⟨i, hi, e2⟩ := List.getElem_of_mem hx
  obtain ⟨y, hy⟩ := h.live (f.length + i) (by omega)
  rw [Rw.tm_lt (by omega)] at hy
  have : gt (f ++ a) (f.length + i) = a[i] := by
    unfold gt
    rw [List.getElem?_append_right (by omega), Nat.add_sub_cancel_left, List.getElem?_eq_getElem hi]
    rfl
  rw [this, e2, e] at hy
  cases hy
end
/-- no row at all -/
theorem empty_tm (n : Nat) : tmR [] [none] 0 n = none := by
  unfold tmR
  rw [if_neg (by simp)]
  have : gt [none] ((n - ([] : List (Option Int)).length) % ([none] : List (Option Int)).length) = none := by
    have : (n - ([] : List (Option Int)).length) % ([none] : List (Option Int)).length = 0 := Nat.mod_one _
    rw [this]
    rfl
  rw [this]
  rfl
theorem empty_cnt (t : Int) : CntOf (tmR [] [none] 0) t none := Or.inl ⟨rfl, fun n => by rw [empty_tm]; rfl⟩
/-! the times, each once -/
theorem uniqO_mem (x : Int) : ∀ (xs : List (Option Int)) (acc : List Int), x ∈ uniqO xs acc ↔ x ∈ acc ∨ some x ∈ xs
  | [], acc => by simp [uniqO]
  | none :: r, acc => by
    show x ∈ uniqO r acc ↔ _
    rw [uniqO_mem x r acc]
    simp
  | some y :: r, acc => by
    show x ∈ uniqO r (if y ∈ acc then acc else acc ++ [y]) ↔ _
    rw [uniqO_mem x r _]
    by_cases h : y ∈ acc
    · rw [if_pos h]
      simp only [List.mem_cons, Option.some.injEq]
      constructor
      · rintro (q | q)
        · exact Or.inl q
        · exact Or.inr (Or.inr q)
      · rintro (q | rfl | q)
        · exact Or.inl q
        · exact Or.inl h
        · exact Or.inr q
    · rw [if_neg h]
      simp only [List.mem_append, List.mem_cons, List.not_mem_nil, or_false, Option.some.injEq]
      constructor
      · rintro ((q | q) | q)
        · exact Or.inl q
        · exact Or.inr (Or.inl q)
        · exact Or.inr (Or.inr q)
      · rintro (q | q | q)
        · exact Or.inl (Or.inl q)
        · exact Or.inl (Or.inr q)
        · exact Or.inr q
def AscO (xs : List (Option Int)) : Prop := xs.Pairwise fun p q => ∀ x y, p = some x → q = some y → x ≤ y
theorem uniqO_asc : ∀ (xs : List (Option Int)) (acc : List Int), AscO xs → acc.Pairwise (· < ·) → (∀ y ∈ acc, ∀ x, some x ∈ xs → y ≤ x) → (uniqO xs acc).Pairwise (· < ·)
  | [], acc, _, h, _ => h
  | none :: r, acc, hs, h, hl => uniqO_asc r acc (List.pairwise_cons.mp hs).2 h fun y hy x hx => hl y hy x (.tail _ hx)
  | some z :: r, acc, hs, h, hl => by
    obtain ⟨h1, h2⟩ := List.pairwise_cons.mp hs
    show (uniqO r (if z ∈ acc then acc else acc ++ [z])).Pairwise (· < ·)
    by_cases c : z ∈ acc
    · rw [if_pos c]
      exact uniqO_asc r acc h2 h fun y hy x hx => hl y hy x (.tail _ hx)
    · rw [if_neg c]
      refine uniqO_asc r _ h2 (List.pairwise_append.mpr ⟨h, List.pairwise_singleton _ _, fun y hy w hw => ?_⟩) fun y hy x hx => ?_
      · rw [List.mem_singleton.mp hw]
        have le := hl y hy z (.head _)
        have ne : y ≠ z := fun q => c (q ▸ hy)
        omega
      · rcases List.mem_append.mp hy with q | q
        · exact hl y q x (.tail _ hx)
        · rw [List.mem_singleton.mp q]
          exact h1 _ hx z x rfl rfl
/-- how many there are of nothing: they stand first -/
theorem nones_at : ∀ {L : List (Option Int)}, (∀ i j, i ≤ j → j < L.length → leO (gt L i) (gt L j)) → ∀ i, i < L.length → (gt L i = none ↔ i < nonesN L)
  | [], _, i, hi => absurd hi (Nat.not_lt_zero _)
  | x :: r, h, i, hi => by
    have hr : ∀ i j, i ≤ j → j < r.length → leO (gt r i) (gt r j) := fun i j h1 h2 => h (i + 1) (j + 1) (by omega) (by rw [List.length_cons]; omega)
    cases x with
    | none =>
      have e : nonesN (none :: r) = nonesN r + 1 := rfl
      rw [e]
      cases i with
      | zero => exact ⟨fun _ => Nat.succ_pos _, fun _ => rfl⟩
      | succ i =>
        have := nones_at hr i (by rw [List.length_cons] at hi; omega)
        rw [show gt (none :: r) (i + 1) = gt r i from rfl, this]
        omega
    | some y =>
      have all : ∀ j, j < (some y :: r).length → gt (some y :: r) j ≠ none := fun j hj q => by
        have := h 0 j (Nat.zero_le _) hj
        rw [q, show gt (some y :: r) 0 = some y from rfl] at this
        exact this
      have e : nonesN (some y :: r) = 0 := by
        unfold nonesN
        rw [List.length_eq_zero_iff, List.filter_eq_nil_iff]
        intro z hz q
        obtain ⟨j, hj, e2⟩ := List.getElem_of_mem hz
        have := all j hj
        rw [Rw.gt_lt hj, e2] at this
        cases z with
        | none => exact this rfl
        | some _ => cases q
      rw [e]
      exact ⟨fun q => absurd q (all i hi), fun q => absurd q (Nat.not_lt_zero _)⟩
end My

namespace My
open PySem PySem.Spec PyProof.Rows L2
local macro_rules | `(tactic| walk_at "side") => `(tactic| first | (dsimp only; omega) | exact ⟨by omega, by omega⟩ | exact Or.inl ⟨by omega, by omega⟩ | exact Or.inr ⟨by omega, by omega⟩ | decide)
local macro_rules | `(tactic| walk_at "sq") => `(tactic| first | assumption | exact SqL.of (by assumption) | exact SqT.of (by assumption) | (refine L2.Same.seq (by assumption) ?_; walk_at "sq") | (refine L2.Same.seqT (by assumption) ?_; walk_at "sq") | exact Or.inl (by walk_at "sq") | exact Or.inr (by walk_at "sq"))
local macro_rules | `(tactic| walk_at "1") => `(tactic| first
  | refine ⟨_, rfl, iteT ?_⟩
  | refine ⟨_, rfl, iteF ?_⟩
  | refine ⟨_, rfl, ?_⟩
  | refine ⟨_, _, rfl, rfl, (by walk_at "side"), ?_⟩
  | refine ⟨_, _, rfl, rfl, ?_⟩
  | refine ⟨_, _, _, _, true, rfl, .ty _, .base (.int _), kit_ty (a := "int") (by decide +kernel), ?_⟩
  | refine ⟨_, _, _, _, false, rfl, .ty _, .base (.int _), kit_ty (a := "int") (by decide +kernel), ?_⟩
  | refine ⟨_, _, rfl, (by walk_at "sq"), ?_⟩
  | refine ⟨_, _, _, _, rfl, rfl, (by walk_at "sq"), (by first | rfl | assumption), ?_⟩
  | refine Or.inl ⟨_, _, _, _, rfl, rfl, (by walk_at "sq"), (by first | rfl | assumption), ?_⟩
  | refine Or.inr (Or.inl ⟨_, _, _, _, rfl, rfl, (by walk_at "sq"), (by first | rfl | assumption), ?_⟩)
  | refine ⟨_, _, rfl, Or.inl ⟨(by walk_at "sq"), ?_⟩⟩
  | refine ⟨rfl, ?_⟩
  | refine iteT ?_
  | refine iteF ?_
  | refine ⟨_, _, _, _, _, rfl, (by assumption), (by assumption), (by assumption), (by assumption), ?_⟩
  | refine Or.inl ⟨_, rfl, ?_⟩
  | refine Or.inr ⟨_, rfl, ?_⟩
  | refine ⟨_, _, rfl, (by walk_at "side"), ?_⟩
  | refine ⟨_, _, rfl, ?_⟩)
local macro_rules | `(tactic| walk_at "fld") => `(tactic| skip)
local macro_rules | `(tactic| walk_at "s") => `(tactic| repeat walk_at "1")
local macro_rules | `(tactic| walk_at "size") => `(tactic| first | exact Nat.le_of_ble_eq_true rfl | (simp only [List.length_map, List.length_append, List.length_cons, List.length_nil]; omega))
local macro_rules | `(tactic| walk_at "new") => `(tactic| (first | refine ⟨(by walk_at "size"), fun p hp => ?_⟩ | refine fun p hp => ?_); (generalize hq : upd _ p _ = H1); (obtain ⟨s, e⟩ := new_facts hp hq); clear hq)
/-! the tally of a row that goes on -/
open Rw (leO upTo tmR gt cntR Qp later1)
section
variable {B : Nat} {f a : List (Option Int)} {m : Int}
theorem RowM.gf (_ : RowM B f a m) {i : Nat} (hi : i < f.length) : f[i]? = some (tmR f a m i) := by
  rw [Rw.tm_f hi, Rw.get_some hi]
theorem RowM.ga (h : RowM B f a m) {i : Nat} (hi : i < a.length) : a[i]? = some (tmR f a m (f.length + i)) := by
  have := Rw.tm_a (f := f) (m := m) 0 hi
  rw [Nat.zero_mul, Nat.add_zero, Int.natCast_zero, Int.zero_mul, Rw.later1_zero] at this
  rw [this, Rw.get_some hi]
theorem RowM.ascF (h : RowM B f a m) : AscO f := by
  refine List.pairwise_iff_getElem.mpr fun i j hi hj hij x y hx hy => ?_
  have e1 := h.gf hi
  have e2 := h.gf hj
  rw [List.getElem?_eq_getElem hi] at e1
  rw [List.getElem?_eq_getElem hj] at e2
  have le := h.all (Nat.le_of_lt hij)
  rw [← Option.some.inj e1, ← Option.some.inj e2, hx, hy] at le
  exact le
theorem RowM.ascA (h : RowM B f a m) : AscO a := by
  refine List.pairwise_iff_getElem.mpr fun i j hi hj hij x y hx hy => ?_
  have e1 := h.ga hi
  have e2 := h.ga hj
  rw [List.getElem?_eq_getElem hi] at e1
  rw [List.getElem?_eq_getElem hj] at e2
  have le := h.all (i := f.length + i) (j := f.length + j) (by omega)
  rw [← Option.some.inj e1, ← Option.some.inj e2, hx, hy] at le
  exact le
theorem RowM.memF (h : RowM B f a m) {x : Int} : some x ∈ f ↔ ∃ n, n < f.length ∧ tmR f a m n = some x := by
  constructor
  · intro q
    obtain ⟨i, hi, e⟩ := List.getElem_of_mem q
    have := h.gf hi
    rw [List.getElem?_eq_getElem hi, e] at this
    exact ⟨i, hi, (Option.some.inj this).symm⟩
  · rintro ⟨n, hn, e⟩
    have := h.gf hn
    rw [e] at this
    exact List.mem_of_getElem? this
theorem RowM.memA (h : RowM B f a m) {x : Int} : some x ∈ a ↔ ∃ n, n < a.length ∧ tmR f a m (f.length + n) = some x := by
  constructor
  · intro q
    obtain ⟨i, hi, e⟩ := List.getElem_of_mem q
    have := h.ga hi
    rw [List.getElem?_eq_getElem hi, e] at this
    exact ⟨i, hi, (Option.some.inj this).symm⟩
  · rintro ⟨n, hn, e⟩
    have := h.ga hn
    rw [e] at this
    exact List.mem_of_getElem? this
theorem RowM.nones (h : RowM B f a m) (n : Nat) : tmR f a m n = none ↔ n < nonesN f := by
  have le : nonesN f ≤ f.length := List.length_filter_le _ _
  by_cases c : n < f.length
  · have hF : ∀ i j, i ≤ j → j < f.length → leO (gt f i) (gt f j) := fun i j h1 h2 => by
      have := h.all h1
      rw [Rw.tm_f (by omega), Rw.tm_f h2] at this
      exact this
    rw [Rw.tm_f c]
    exact nones_at hF n c
  · obtain ⟨x, hx⟩ := h.live n (by omega)
    rw [hx]
    exact ⟨fun q => (nomatch q), fun q => (by omega)⟩
theorem upTo_some {t x : Int} : upTo t (some x) = decide (x ≤ t) := rfl
/-- a step sequence that fits the row's times -/
structure FitsQ (r : Nat → Option Int) (u : Nat) (s : Nat → Sti) : Prop where
  none : ∀ n, r n = none ↔ n < u
  lt : ∀ i, (s i).1 < (s (i + 1)).1
  val : ∀ i, ∃ n, r n = some (s i).1
  all : ∀ n x, r n = some x → ∃ i, (s i).1 = x
  cnt : ∀ i, ∃ N : Nat, (s i).2 = (N : Int) ∧ ∀ n, upTo (s i).1 (r n) = decide (n < N)
theorem FitsQ.mono {r : Nat → Option Int} {u : Nat} {s : Nat → Sti} (h : FitsQ r u s) {i j : Nat} (hij : i < j) : (s i).1 < (s j).1 := by
  obtain ⟨d, rfl⟩ := Nat.le.dest hij
  induction d with
  | zero => exact h.lt i
  | succ d ih => exact Int.lt_trans (ih (by omega)) (h.lt (i + 1 + d))
theorem FitsQ.rise {r : Nat → Option Int} {u : Nat} {s : Nat → Sti} (h : FitsQ r u s) : Rise s := fun i => by
  refine ⟨h.lt i, ?_⟩
  obtain ⟨N, e1, c1⟩ := h.cnt i
  obtain ⟨N2, e2, c2⟩ := h.cnt (i + 1)
  obtain ⟨n, hn⟩ := h.val (i + 1)
  have a1 := c1 n
  have a2 := c2 n
  have lt := h.lt i
  rw [hn, upTo_some] at a1 a2
  rw [decide_eq_false (by omega)] at a1
  rw [decide_eq_true (by omega)] at a2
  have b1 : ¬ n < N := of_decide_eq_false a1.symm
  have b2 : n < N2 := of_decide_eq_true a2.symm
  omega
theorem FitsQ.un {r : Nat → Option Int} {u : Nat} {s : Nat → Sti} (h : FitsQ r u s) : (u : Int) < (s 0).2 := by
  obtain ⟨N, e, c⟩ := h.cnt 0
  obtain ⟨n, hn⟩ := h.val 0
  have a1 := c n
  rw [hn, upTo_some, decide_eq_true (Int.le_refl _)] at a1
  have b1 : n < N := of_decide_eq_true a1.symm
  have b2 : ¬ n < u := fun q => by
    rw [(h.none n).mpr q] at hn
    cases hn
  omega
theorem FitsQ.tell {r : Nat → Option Int} {u : Nat} {s : Nat → Sti} (h : FitsQ r u s) {time : Int} {v : Option Int} (T : Tell (some (u : Int)) s time v) : CntOf r time v := by
  have R := h.rise
  rcases T with ⟨lt, rfl⟩ | ⟨k, l1, l2, rfl⟩
  · refine Or.inr ⟨u, rfl, fun n => ?_⟩
    cases e : r n with
    | none => rw [decide_eq_true ((h.none n).mp e)]; rfl
    | some x =>
      obtain ⟨i, hi⟩ := h.all n x e
      have := R.le (Nat.zero_le i)
      rw [upTo_some, decide_eq_false (by omega), decide_eq_false (fun q => by rw [(h.none n).mpr q] at e; cases e)]
  · obtain ⟨N, e, c⟩ := h.cnt k
    refine Or.inr ⟨N, by rw [e], fun n => ?_⟩
    rw [← c n]
    cases e : r n with
    | none => rfl
    | some x =>
      obtain ⟨i, hi⟩ := h.all n x e
      rw [upTo_some, upTo_some]
      rcases Nat.lt_or_ge k i with q | q
      · have := R.le (i := k + 1) (j := i) q
        rw [decide_eq_false (by omega), decide_eq_false (by omega)]
      · have := R.le q
        rw [decide_eq_true (by omega), decide_eq_true (by omega)]
/-- the steps of a row that goes on -/
theorem row_steps (h : RowM B f a m) (hm : 0 < m) {lo : Int} (hlo : gt a 0 = some lo) :
    ∃ g s, stepsF f a m lo = g.map up ∧ IsSeq g (stepsA f a m lo) m a.length s ∧ FitsQ (tmR f a m) (nonesN f) s ∧ g.length ≤ f.length ∧ (stepsA f a m lo).length ≤ a.length ∧ (s (g.length + (stepsA f a m lo).length)).2 ≤ f.length + 2 * a.length := by
  have T0 := h.T0
  obtain ⟨lo', g0, eF⟩ := h.first
  rw [hlo] at g0
  cases g0
  have all : ∀ {i j : Nat}, i ≤ j → leO (tmR f a m i) (tmR f a m j) := fun q => h.all q
  have qp := h.qp
  have live := h.live
  have memF : ∀ {x : Int}, some x ∈ f ↔ ∃ n, n < f.length ∧ tmR f a m n = some x := h.memF
  have memA : ∀ {x : Int}, some x ∈ a ↔ ∃ n, n < a.length ∧ tmR f a m (f.length + n) = some x := h.memA
  have nones := h.nones
  have hc : ∀ t, ∃ N : Nat, cntR f a m t = some (N : Int) ∧ cntZ f a m t = N ∧ ∀ n, upTo t (tmR f a m n) = decide (n < N) := fun t => by
    obtain ⟨N, e1, e2⟩ := Rw.cnt_spec (time := t) h.T0 h.m0 (fun i j q => h.all q) hlo (Or.inr hm)
    exact ⟨N, e1, by unfold cntZ; rw [e1]; rfl, e2⟩
  generalize tmR f a m = r at all qp live memF memA nones hc eF ⊢
  have aD : ((uniqO f []).filter fun t => decide (t < lo)).Pairwise (· < ·) := (uniqO_asc f [] h.ascF .nil fun y hy => nomatch hy).filter _
  have aA : ((uniqO a []).filter fun t => decide (t < lo + m)).Pairwise (· < ·) := (uniqO_asc a [] h.ascA .nil fun y hy => nomatch hy).filter _
  have lD : ((uniqO f []).filter fun t => decide (t < lo)).length ≤ f.length := by
    have h1 := List.length_filter_le (fun t => decide (t < lo)) (uniqO f [])
    have h2 := uniqO_len f []
    rw [List.length_nil] at h2
    omega
  have lA : ((uniqO a []).filter fun t => decide (t < lo + m)).length ≤ a.length := by
    have h1 := List.length_filter_le (fun t => decide (t < lo + m)) (uniqO a [])
    have h2 := uniqO_len a []
    rw [List.length_nil] at h2
    omega
  have mD : ∀ x, x ∈ ((uniqO f []).filter fun t => decide (t < lo)) ↔ (∃ n, n < f.length ∧ r n = some x) ∧ x < lo := fun x => by
    rw [List.mem_filter, uniqO_mem, decide_eq_true_iff, memF]
    simp
  have mA : ∀ x, x ∈ ((uniqO a []).filter fun t => decide (t < lo + m)) ↔ (∃ n, n < a.length ∧ r (f.length + n) = some x) ∧ x < lo + m := fun x => by
    rw [List.mem_filter, uniqO_mem, decide_eq_true_iff, memA]
    simp
  unfold stepsF stepsA
  generalize (uniqO f []).filter (fun t => decide (t < lo)) = D at aD lD mD ⊢
  generalize (uniqO a []).filter (fun t => decide (t < lo + m)) = A at aA lA mA ⊢
  generalize hcz : cntZ f a m = cz at hc ⊢
  have geA : ∀ x ∈ A, lo ≤ x := fun x hx => by
    obtain ⟨⟨n, hn, e⟩, _⟩ := (mA x).mp hx
    have := all (i := f.length) (j := f.length + n) (by omega)
    rw [eF, e] at this
    exact this
  have loA : lo ∈ A := (mA lo).mpr ⟨⟨0, T0, eF⟩, by omega⟩
  obtain ⟨A', hA'⟩ : ∃ A', A = lo :: A' := by
    cases A with
    | nil => cases loA
    | cons y A' =>
      rcases List.mem_cons.mp loA with q | q
      · exact ⟨A', by rw [q]⟩
      · have h1 := (List.pairwise_cons.mp aA).1 lo q
        have h2 := geA y (.head _)
        omega
  have A0 : 0 < A.length := by rw [hA']; exact Nat.succ_pos _
  obtain ⟨g, hg⟩ : ∃ g : List Sti, g = D.map fun t => (t, cz t) := ⟨_, rfl⟩
  obtain ⟨as, has⟩ : ∃ as : List Sti, as = A.map fun t => (t, cz t) := ⟨_, rfl⟩
  have lg : g.length = D.length := by rw [hg, List.length_map]
  have las : as.length = A.length := by rw [has, List.length_map]
  have S : IsSeq g as m a.length (sq g as m a.length) := sq_is (by rw [las]; exact A0)
  generalize sq g as m a.length = s at S
  -- the steps as they stand in the lists
  have sD : ∀ i (hi : i < D.length), s i = (D[i], cz D[i]) := fun i hi => by
    have := S.at_g (i := i) (by omega)
    rw [hg, List.getElem?_map, List.getElem?_eq_getElem hi] at this
    exact (Option.some.inj this).symm
  have sA : ∀ i (hi : i < A.length), s (D.length + i) = (A[i], cz A[i]) := fun i hi => by
    have := S.at_a (i := i) (by omega)
    rw [has, List.getElem?_map, List.getElem?_eq_getElem hi, lg] at this
    exact (Option.some.inj this).symm
  have per : ∀ n, D.length ≤ n → s (n + A.length) = mv m a.length (s n) := fun n hn => by
    have := S.per n (by omega)
    rw [las] at this
    exact this
  have s0 : (s D.length).1 = lo := by
    have := sA 0 A0
    rw [Nat.add_zero] at this
    rw [this]
    show A[0] = lo
    simp only [hA', List.getElem_cons_zero]
  -- counts a turn later
  have shift : ∀ t, lo ≤ t → cz (t + m) = cz t + a.length := fun t ht => by
    obtain ⟨N, _, e1, c1⟩ := hc t
    obtain ⟨N2, _, e2, c2⟩ := hc (t + m)
    have hFN : f.length < N := by
      have := c1 f.length
      rw [eF, upTo_some, decide_eq_true ht] at this
      exact of_decide_eq_true this.symm
    have c3 : CntOf r (t + m) (some ((N + a.length : Nat) : Int)) := Or.inr ⟨_, rfl, fun n => by
      by_cases c : f.length + a.length ≤ n
      · obtain ⟨k, rfl⟩ : ∃ k, n = k + a.length := ⟨n - a.length, by omega⟩
        obtain ⟨x, hx⟩ := live k (by omega)
        have q := qp k (by omega)
        rw [hx] at q
        have c1k := c1 k
        rw [hx, upTo_some] at c1k
        rw [q]
        show decide (x + m ≤ t + m) = _
        rw [show decide (x + m ≤ t + m) = decide (x ≤ t) by by_cases z : x ≤ t; rw [decide_eq_true z, decide_eq_true (by omega)]; rw [decide_eq_false z, decide_eq_false (by omega)], c1k]
        by_cases z : k < N
        · rw [decide_eq_true z, decide_eq_true (by omega)]
        · rw [decide_eq_false z, decide_eq_false (by omega)]
      · rw [decide_eq_true (by omega : n < N + a.length)]
        have q := qp f.length (Nat.le_refl _)
        rw [eF] at q
        have le := all (i := n) (j := f.length + a.length) (by omega)
        rw [q] at le
        exact Rw.upTo_le le (show upTo (t + m) (some (lo + m)) = true from decide_eq_true (by omega))⟩
    have := c3.fn (Or.inr ⟨N2, rfl, c2⟩)
    have := Option.some.inj this
    rw [e1, e2]
    omega
  have key : ∀ i, (s i).2 = cz (s i).1 ∧ (D.length ≤ i → lo ≤ (s i).1) ∧ ∃ n, r n = some (s i).1 := fun i => by
    induction i using Nat.strongRecOn with
    | _ i ih =>
      by_cases c1 : i < D.length
      · rw [sD i c1]
        obtain ⟨⟨n, _, e⟩, _⟩ := (mD D[i]).mp (List.getElem_mem c1)
        exact ⟨rfl, fun q => by omega, n, e⟩
      · by_cases c2 : i < D.length + A.length
        · obtain ⟨j, rfl⟩ : ∃ j, i = D.length + j := ⟨i - D.length, by omega⟩
          rw [sA j (by omega)]
          obtain ⟨⟨n, _, e⟩, _⟩ := (mA A[j]).mp (List.getElem_mem (by omega))
          exact ⟨rfl, fun _ => geA _ (List.getElem_mem (by omega)), _, e⟩
        · obtain ⟨j, rfl⟩ : ∃ j, i = j + A.length := ⟨i - A.length, by omega⟩
          obtain ⟨h1, h2, n, h3⟩ := ih j (by omega)
          have h2 := h2 (by omega)
          rw [per j (by omega)]
          have nF : f.length ≤ n ∨ r (f.length) = some (s j).1 := by
            rcases Nat.lt_or_ge n f.length with q | q
            · have := all (Nat.le_of_lt q)
              rw [h3, eF] at this
              have : (s j).1 ≤ lo := this
              exact Or.inr (by rw [eF, show lo = (s j).1 by omega])
            · exact Or.inl q
          refine ⟨?_, fun _ => ?_, ?_⟩
          · show (s j).2 + (a.length : Int) = cz ((s j).1 + m)
            rw [shift _ h2, h1]
          · show lo ≤ (s j).1 + m
            omega
          · rcases nF with q | q
            · exact ⟨n + a.length, by rw [qp n q, h3]; rfl⟩
            · exact ⟨f.length + a.length, by rw [qp _ (Nat.le_refl _), q]; rfl⟩
  have sF : (s (D.length + A.length)).1 = lo + m := by
    rw [per _ (Nat.le_refl _)]
    show (s D.length).1 + m = _
    rw [s0]
  have lt : ∀ i, (s i).1 < (s (i + 1)).1 := fun i => by
    induction i using Nat.strongRecOn with
    | _ i ih =>
      by_cases c1 : i + 1 < D.length
      · rw [sD i (by omega), sD (i + 1) c1]
        exact List.pairwise_iff_getElem.mp aD i (i + 1) (by omega) c1 (by omega)
      · by_cases c2 : i + 1 = D.length
        · rw [c2, s0, sD i (by omega)]
          exact ((mD _).mp (List.getElem_mem (by omega))).2
        · by_cases c3 : i + 1 < D.length + A.length
          · obtain ⟨j, rfl⟩ : ∃ j, i = D.length + j := ⟨i - D.length, by omega⟩
            rw [show D.length + j + 1 = D.length + (j + 1) by omega, sA j (by omega), sA (j + 1) (by omega)]
            exact List.pairwise_iff_getElem.mp aA j (j + 1) (by omega) (by omega) (by omega)
          · by_cases c4 : i + 1 = D.length + A.length
            · rw [c4, sF]
              obtain ⟨j, rfl⟩ : ∃ j, i = D.length + j := ⟨i - D.length, by omega⟩
              rw [sA j (by omega)]
              exact ((mA _).mp (List.getElem_mem (by omega))).2
            · obtain ⟨j, rfl⟩ : ∃ j, i = j + A.length := ⟨i - A.length, by omega⟩
              rw [show j + A.length + 1 = (j + 1) + A.length by omega, per j (by omega), per (j + 1) (by omega)]
              have := ih j (by omega)
              show (s j).1 + m < (s (j + 1)).1 + m
              omega
  have ltD : ∀ i j, i < j → (s i).1 < (s j).1 := fun i j hij => by
    obtain ⟨d, rfl⟩ := Nat.le.dest hij
    induction d with
    | zero => exact lt i
    | succ d ih => exact Int.lt_trans (ih (by omega)) (lt (i + 1 + d))
  have vals : ∀ n x, r n = some x → ∃ i, (s i).1 = x := fun n => by
    induction n using Nat.strongRecOn with
    | _ n ih =>
      intro x hx
      by_cases c1 : n < f.length
      · by_cases c2 : x < lo
        · obtain ⟨i, hi, e⟩ := List.getElem_of_mem ((mD x).mpr ⟨⟨n, c1, hx⟩, c2⟩)
          exact ⟨i, by rw [sD i hi]; exact e⟩
        · have := all (Nat.le_of_lt c1)
          rw [hx, eF] at this
          have : x ≤ lo := this
          exact ⟨D.length, by rw [s0]; omega⟩
      · by_cases c2 : n < f.length + a.length
        · obtain ⟨k, rfl⟩ : ∃ k, n = f.length + k := ⟨n - f.length, by omega⟩
          by_cases c3 : x < lo + m
          · obtain ⟨i, hi, e⟩ := List.getElem_of_mem ((mA x).mpr ⟨⟨k, by omega, hx⟩, c3⟩)
            exact ⟨D.length + i, by rw [sA i hi]; exact e⟩
          · have q := qp f.length (Nat.le_refl _)
            rw [eF] at q
            have le := all (i := f.length + k) (j := f.length + a.length) (by omega)
            rw [q, hx] at le
            have le : x ≤ lo + m := le
            exact ⟨D.length + A.length, by rw [sF]; omega⟩
        · obtain ⟨k, rfl⟩ : ∃ k, n = k + a.length := ⟨n - a.length, by omega⟩
          obtain ⟨y, hy⟩ := live k (by omega)
          have q := qp k (by omega)
          rw [hy, hx] at q
          have q : x = y + m := Option.some.inj q
          obtain ⟨j, hj⟩ := ih k (by omega) y hy
          have ge : D.length ≤ j := by
            rcases Nat.lt_or_ge j D.length with z | z
            · have l1 := ltD _ _ z
              have l2 := all (i := f.length) (j := k) (by omega)
              rw [eF, hy] at l2
              have l2 : lo ≤ y := l2
              rw [s0] at l1
              omega
            · exact z
          refine ⟨j + A.length, ?_⟩
          rw [per j ge, q, ← hj]
          rfl
  refine ⟨g, s, ?_, by rw [← has]; exact S, ⟨nones, lt, fun i => (key i).2.2, vals, fun i => ?_⟩, by omega, by rw [List.length_map]; exact lA, ?_⟩
  · rw [hg, List.map_map]
    refine List.map_congr_left fun t _ => ?_
    obtain ⟨N, e1, e2, _⟩ := hc t
    show (t, cntR f a m t) = (t, some (cz t))
    rw [e1, e2]
  · obtain ⟨N, _, e2, c⟩ := hc (s i).1
    exact ⟨N, by rw [(key i).1, e2], c⟩
  · rw [List.length_map, lg, (key _).1, sF, shift lo (Int.le_refl _)]
    obtain ⟨N, _, e2, c⟩ := hc lo
    have q := qp f.length (Nat.le_refl _)
    rw [eF] at q
    have := c (f.length + a.length)
    rw [q] at this
    have e : upTo lo (some (lo + m)) = false := decide_eq_false (by omega)
    have this : upTo lo (some (lo + m)) = decide (f.length + a.length < N) := this
    rw [e] at this
    have := of_decide_eq_false this.symm
    rw [e2]
    omega
end
end My

namespace My
open PySem PySem.Spec PyProof.Rows L2
local macro_rules | `(tactic| walk_at "side") => `(tactic| first | (dsimp only; omega) | exact ⟨by omega, by omega⟩ | exact Or.inl ⟨by omega, by omega⟩ | exact Or.inr ⟨by omega, by omega⟩ | decide)
local macro_rules | `(tactic| walk_at "sq") => `(tactic| first | assumption | exact SqL.of (by assumption) | exact SqT.of (by assumption) | (refine L2.Same.seq (by assumption) ?_; walk_at "sq") | (refine L2.Same.seqT (by assumption) ?_; walk_at "sq") | exact Or.inl (by walk_at "sq") | exact Or.inr (by walk_at "sq"))
local macro_rules | `(tactic| walk_at "1") => `(tactic| first
  | refine ⟨_, rfl, iteT ?_⟩
  | refine ⟨_, rfl, iteF ?_⟩
  | refine ⟨_, rfl, ?_⟩
  | refine ⟨_, _, rfl, rfl, (by walk_at "side"), ?_⟩
  | refine ⟨_, _, rfl, rfl, ?_⟩
  | refine ⟨_, _, _, _, true, rfl, .ty _, .base (.int _), kit_ty (a := "int") (by decide +kernel), ?_⟩
  | refine ⟨_, _, _, _, false, rfl, .ty _, .base (.int _), kit_ty (a := "int") (by decide +kernel), ?_⟩
  | refine ⟨_, _, rfl, (by walk_at "sq"), ?_⟩
  | refine ⟨_, _, _, _, rfl, rfl, (by walk_at "sq"), (by first | rfl | assumption), ?_⟩
  | refine Or.inl ⟨_, _, _, _, rfl, rfl, (by walk_at "sq"), (by first | rfl | assumption), ?_⟩
  | refine Or.inr (Or.inl ⟨_, _, _, _, rfl, rfl, (by walk_at "sq"), (by first | rfl | assumption), ?_⟩)
  | refine ⟨_, _, rfl, Or.inl ⟨(by walk_at "sq"), ?_⟩⟩
  | refine ⟨rfl, ?_⟩
  | refine iteT ?_
  | refine iteF ?_
  | refine ⟨_, _, _, _, _, rfl, (by assumption), (by assumption), (by assumption), (by assumption), ?_⟩
  | refine Or.inl ⟨_, rfl, ?_⟩
  | refine Or.inr ⟨_, rfl, ?_⟩
  | refine ⟨_, _, rfl, (by walk_at "side"), ?_⟩
  | refine ⟨_, _, rfl, ?_⟩)
local macro_rules | `(tactic| walk_at "fld") => `(tactic| skip)
local macro_rules | `(tactic| walk_at "s") => `(tactic| repeat walk_at "1")
local macro_rules | `(tactic| walk_at "size") => `(tactic| first | exact Nat.le_of_ble_eq_true rfl | (simp only [List.length_map, List.length_append, List.length_cons, List.length_nil]; omega))
local macro_rules | `(tactic| walk_at "new") => `(tactic| (first | refine ⟨(by walk_at "size"), fun p hp => ?_⟩ | refine fun p hp => ?_); (generalize hq : upd _ p _ = H1); (obtain ⟨s, e⟩ := new_facts hp hq); clear hq)
/-! tallies that end -/
open Rw (leO upTo tmR gt cntR Qp later1)
/-- steps that rise from a time and a count on, the last one endless -/
def ChainE : Int → Int → List Stp → Prop
  | _, _, [] => False
  | lo, _, [y] => lo < y.1 ∧ y.2 = none
  | lo, c, y :: z :: r => lo < y.1 ∧ ∃ c', y.2 = some c' ∧ c < c' ∧ ChainE y.1 c' (z :: r)
theorem chainE_head : ∀ {lo c : Int} {y : Stp} {r : List Stp}, ChainE lo c (y :: r) → lo < y.1 ∧ ((y.2 = none ∧ r = []) ∨ ∃ c', y.2 = some c' ∧ c < c' ∧ ChainE y.1 c' r)
  | lo, c, y, [], h => ⟨h.1, Or.inl ⟨h.2, rfl⟩⟩
  | lo, c, y, z :: r, h => ⟨h.1, Or.inr h.2⟩
theorem fold_low {time : Int} (v : Option Int) : ∀ {f : List Stp} {lo c : Int}, ChainE lo c f → time ≤ lo → f.foldl (firstAt time) v = v
  | [], _, _, h, _ => h.elim
  | y :: r, lo, c, h, ht => by
    obtain ⟨h1, h3⟩ := chainE_head h
    rw [List.foldl_cons, firstAt, if_neg (by omega)]
    rcases h3 with ⟨_, rfl⟩ | ⟨c', _, _, hr⟩
    · rfl
    · exact fold_low v hr (by omega)
theorem fold_at {lo c : Int} {y : Stp} {r : List Stp} (h : ChainE lo c (y :: r)) (v : Option Int) : (y :: r).foldl (firstAt y.1) v = y.2 := by
  obtain ⟨_, h3⟩ := chainE_head h
  rw [List.foldl_cons, firstAt, if_pos (Int.le_refl _)]
  rcases h3 with ⟨_, rfl⟩ | ⟨c', _, _, hr⟩
  · rfl
  · exact fold_low _ hr (Int.le_refl _)
theorem ends_eq : ∀ {f f2 : List Stp} {lo c : Int}, ChainE lo c f → ChainE lo c f2 → (∀ time, lo ≤ time → f.foldl (firstAt time) (some c) = f2.foldl (firstAt time) (some c)) → f = f2
  | [], _, _, _, h, _, _ => h.elim
  | _ :: _, [], _, _, _, h, _ => h.elim
  | y :: r, y2 :: r2, lo, c, h, h2, W => by
    have low : ∀ {z : Stp} {q : List Stp} {time : Int}, ChainE lo c (z :: q) → time < z.1 → (z :: q).foldl (firstAt time) (some c) = some c := fun {z q time} hz ht => by
      obtain ⟨_, h3⟩ := chainE_head hz
      rw [List.foldl_cons, firstAt, if_neg (by omega)]
      rcases h3 with ⟨_, rfl⟩ | ⟨c', _, _, hr⟩
      · rfl
      · exact fold_low _ hr (by omega)
    have ne : ∀ {z : Stp} {q : List Stp}, ChainE lo c (z :: q) → z.2 ≠ some c := fun {z q} hz e => by
      obtain ⟨_, h3⟩ := chainE_head hz
      rcases h3 with ⟨e2, _⟩ | ⟨c', e2, lt, _⟩
      · rw [e2] at e
        cases e
      · rw [e2] at e
        have := Option.some.inj e
        omega
    obtain ⟨a1, a3⟩ := chainE_head h
    obtain ⟨b1, b3⟩ := chainE_head h2
    have et : y.1 = y2.1 := by
      rcases Int.lt_trichotomy y.1 y2.1 with q | q | q
      · have := W y.1 (by omega)
        rw [fold_at h, low h2 q] at this
        exact absurd this (ne h)
      · exact q
      · have := W y2.1 (by omega)
        rw [fold_at h2, low h q] at this
        exact absurd this.symm (ne h2)
    have ec : y.2 = y2.2 := by
      have := W y.1 (by omega)
      rw [fold_at h, et, fold_at h2] at this
      exact this
    have ey : y = y2 := Prod.ext et ec
    subst ey
    rcases a3 with ⟨e1, rfl⟩ | ⟨c', e1, _, hr⟩
    · rcases b3 with ⟨_, rfl⟩ | ⟨c2, e2, _, _⟩
      · rfl
      · rw [e1] at e2
        cases e2
    · rcases b3 with ⟨e2, _⟩ | ⟨c2, e2, _, hr2⟩
      · rw [e1] at e2
        cases e2
      · have : c' = c2 := by
          rw [e1] at e2
          exact Option.some.inj e2
        subst this
        rw [ends_eq hr hr2 fun time p => ?_]
        have := W time (by omega)
        rw [List.foldl_cons, List.foldl_cons, firstAt, if_pos p, e1] at this
        exact this
theorem chainE_less : ∀ {f : List Stp} {lo lo' c : Int}, ChainE lo c f → lo' ≤ lo → ChainE lo' c f
  | [], _, _, _, h, _ => h.elim
  | [y], lo, lo', c, h, q => ⟨Int.lt_of_le_of_lt q h.1, h.2⟩
  | y :: z :: r, lo, lo', c, h, q => ⟨Int.lt_of_le_of_lt q h.1, h.2⟩
theorem chainE_rise : ∀ {f : List Stp} {lo c : Int} (x : Option Int × Option Int), ChainE lo c f → x.2 = some c → (x.1 = none ∨ x.1 = some lo) → riseF x f = true
  | [], _, _, _, h, _, _ => h.elim
  | y :: r, lo, c, x, h, h2, h1 => by
    obtain ⟨a, b⟩ := chainE_head h
    have ut : upT x.1 y.1 = true := by
      rcases h1 with h1 | h1
      · rw [h1]
        rfl
      · rw [h1]
        exact decide_eq_true a
    show (upC x.2 y.2 && (upT x.1 y.1 && riseF (prO y) r)) = true
    rw [ut, h2]
    rcases b with ⟨e, rfl⟩ | ⟨c', e, lt, hr⟩
    · rw [e]
      rfl
    · rw [chainE_rise (prO y) hr e (Or.inr rfl), e, show upC (some c) (some c') = true from decide_eq_true lt]
      rfl
theorem chainE_fd : ∀ {f : List Stp} {lo c : Int}, ChainE lo c f → 0 ≤ c → (f.map stD).all isFD = true
  | [], _, _, h, _ => h.elim
  | y :: r, lo, c, h, h0 => by
    obtain ⟨a, b⟩ := chainE_head h
    rw [List.map_cons, List.all_cons]
    rcases b with ⟨e, rfl⟩ | ⟨c', e, lt, hr⟩
    · obtain ⟨y1, y2⟩ := y
      cases e
      rfl
    · rw [chainE_fd hr (by omega), Bool.and_true]
      obtain ⟨y1, y2⟩ := y
      cases e
      show (isStepD (siD (y1, c')) || _) = true
      rw [show isStepD (siD (y1, c')) = true by
        show (isIntD (.int y1) && isNumD (.int c')) = true
        rw [show isNumD (.int c') = true from decide_eq_true (by omega)]
        rfl]
      rfl
theorem chainE_last : ∀ {f : List Stp} {lo c : Int} (x : Option Int × Option Int), ChainE lo c f → ((f.getLast?.map prO).getD x).2 = none
  | [], _, _, _, h => h.elim
  | [y], lo, c, x, h => h.2
  | y :: z :: r, lo, c, x, h => by
    obtain ⟨_, c', _, _, hr⟩ := h
    rw [show (y :: z :: r).getLast? = (z :: r).getLast? from List.getLast?_cons_cons]
    exact chainE_last x hr
theorem chainE_asc : ∀ {f : List Stp} {lo c : Int}, ChainE lo c f → Asc f ∧ ∀ y ∈ f, lo < y.1
  | [], _, _, h => h.elim
  | y :: r, lo, c, h => by
    obtain ⟨a, b⟩ := chainE_head h
    rcases b with ⟨e, rfl⟩ | ⟨c', e, lt, hr⟩
    · exact ⟨List.pairwise_singleton _ _, fun z hz => by rw [List.mem_singleton.mp hz]; exact a⟩
    · obtain ⟨h1, h2⟩ := chainE_asc hr
      refine ⟨List.pairwise_cons.mpr ⟨fun z hz => h2 z hz, h1⟩, fun z hz => ?_⟩
      rcases List.mem_cons.mp hz with rfl | q
      · exact a
      · have := h2 z q
        omega
/-- nothing is wrong with a tally that ends -/
theorem ends_in {u lo : Int} {f : List Stp} (u0 : 0 ≤ u) (h : ChainE lo u f) : TalIn (some u) f [] 0 0 := fun d1 d2 q1 i1 q2 i2 =>
  word_nil (u := .int u) (f := f) (by show (false || decide (0 ≤ u)) = true; rw [decide_eq_true u0]; rfl) q1 i1 q2 i2 (chainE_fd h u0) (chainE_rise _ h rfl (Or.inl rfl)) (chainE_last _ h)
/-- from steps that rise -/
theorem chainE_of : ∀ (g : List Sti) (lo c T : Int), (g.Pairwise fun x y => x.1 < y.1 ∧ x.2 < y.2) → (∀ x ∈ g, lo < x.1 ∧ c < x.2 ∧ x.1 < T) → lo < T → ChainE lo c (g.map up ++ [(T, none)])
  | [], lo, c, T, _, _, h => ⟨h, rfl⟩
  | x :: r, lo, c, T, hp, hx, h => by
    obtain ⟨h1, h2⟩ := List.pairwise_cons.mp hp
    obtain ⟨a, b, d⟩ := hx x (.head _)
    have hr := chainE_of r x.1 x.2 T h2 (fun y hy => ⟨(h1 y hy).1, (h1 y hy).2, (hx y (.tail _ hy)).2.2⟩) d
    cases hq : r.map up ++ [(T, (none : Option Int))] with
    | nil => exact absurd hq (by simp)
    | cons z q =>
      rw [hq] at hr
      rw [List.map_cons, List.cons_append, hq]
      exact ⟨a, x.2, rfl, b, hr⟩
end My

namespace My
open PySem PySem.Spec PyProof.Rows L2
local macro_rules | `(tactic| walk_at "side") => `(tactic| first | (dsimp only; omega) | exact ⟨by omega, by omega⟩ | exact Or.inl ⟨by omega, by omega⟩ | exact Or.inr ⟨by omega, by omega⟩ | decide)
local macro_rules | `(tactic| walk_at "sq") => `(tactic| first | assumption | exact SqL.of (by assumption) | exact SqT.of (by assumption) | (refine L2.Same.seq (by assumption) ?_; walk_at "sq") | (refine L2.Same.seqT (by assumption) ?_; walk_at "sq") | exact Or.inl (by walk_at "sq") | exact Or.inr (by walk_at "sq"))
local macro_rules | `(tactic| walk_at "1") => `(tactic| first
  | refine ⟨_, rfl, iteT ?_⟩
  | refine ⟨_, rfl, iteF ?_⟩
  | refine ⟨_, rfl, ?_⟩
  | refine ⟨_, _, rfl, rfl, (by walk_at "side"), ?_⟩
  | refine ⟨_, _, rfl, rfl, ?_⟩
  | refine ⟨_, _, _, _, true, rfl, .ty _, .base (.int _), kit_ty (a := "int") (by decide +kernel), ?_⟩
  | refine ⟨_, _, _, _, false, rfl, .ty _, .base (.int _), kit_ty (a := "int") (by decide +kernel), ?_⟩
  | refine ⟨_, _, rfl, (by walk_at "sq"), ?_⟩
  | refine ⟨_, _, _, _, rfl, rfl, (by walk_at "sq"), (by first | rfl | assumption), ?_⟩
  | refine Or.inl ⟨_, _, _, _, rfl, rfl, (by walk_at "sq"), (by first | rfl | assumption), ?_⟩
  | refine Or.inr (Or.inl ⟨_, _, _, _, rfl, rfl, (by walk_at "sq"), (by first | rfl | assumption), ?_⟩)
  | refine ⟨_, _, rfl, Or.inl ⟨(by walk_at "sq"), ?_⟩⟩
  | refine ⟨rfl, ?_⟩
  | refine iteT ?_
  | refine iteF ?_
  | refine ⟨_, _, _, _, _, rfl, (by assumption), (by assumption), (by assumption), (by assumption), ?_⟩
  | refine Or.inl ⟨_, rfl, ?_⟩
  | refine Or.inr ⟨_, rfl, ?_⟩
  | refine ⟨_, _, rfl, (by walk_at "side"), ?_⟩
  | refine ⟨_, _, rfl, ?_⟩)
local macro_rules | `(tactic| walk_at "fld") => `(tactic| skip)
local macro_rules | `(tactic| walk_at "s") => `(tactic| repeat walk_at "1")
local macro_rules | `(tactic| walk_at "size") => `(tactic| first | exact Nat.le_of_ble_eq_true rfl | (simp only [List.length_map, List.length_append, List.length_cons, List.length_nil]; omega))
local macro_rules | `(tactic| walk_at "new") => `(tactic| (first | refine ⟨(by walk_at "size"), fun p hp => ?_⟩ | refine fun p hp => ?_); (generalize hq : upd _ p _ = H1); (obtain ⟨s, e⟩ := new_facts hp hq); clear hq)
/-! the tally of a row that ends: from some going on all are at one time -/
open Rw (leO upTo tmR gt cntR Qp later1)
theorem below (L : List Int) (y : Int) : ∃ b : Int, b < y ∧ ∀ x ∈ L, b < x := by
  induction L with
  | nil => exact ⟨y - 1, by omega, fun x h => nomatch h⟩
  | cons z r ih =>
    obtain ⟨b, h1, h2⟩ := ih
    refine ⟨min b (z - 1), by omega, fun x hx => ?_⟩
    rcases List.mem_cons.mp hx with rfl | q
    · omega
    · have := h2 x q
      omega
section
variable {B : Nat} {f a : List (Option Int)}
theorem row_ends (h : RowM B f a 0) {lo : Int} (hlo : gt a 0 = some lo) :
    ∃ (g : List Sti) (b : Int), stepsF f a 0 lo = g.map up ∧ ChainE b (nonesN f : Nat) (g.map up ++ [(lo, none)]) ∧ g.length ≤ f.length ∧ (∀ x ∈ g, 0 ≤ x.2 ∧ x.2 ≤ f.length) ∧
      ∀ time, CntOf (tmR f a 0) time (atL (some (nonesN f : Nat)) (g.map up ++ [(lo, none)]) [] 0 0 time) := by
  obtain ⟨lo', g0, eF⟩ := h.first
  rw [hlo] at g0
  cases g0
  have all : ∀ {i j : Nat}, i ≤ j → leO (tmR f a 0 i) (tmR f a 0 j) := fun q => h.all q
  have memF : ∀ {x : Int}, some x ∈ f ↔ ∃ n, n < f.length ∧ tmR f a 0 n = some x := h.memF
  have nones := h.nones
  have hc : ∀ t, t < lo → ∃ N : Nat, cntR f a 0 t = some (N : Int) ∧ cntZ f a 0 t = N ∧ ∀ n, upTo t (tmR f a 0 n) = decide (n < N) := fun t ht => by
    obtain ⟨N, e1, e2⟩ := Rw.cnt_spec (time := t) h.T0 h.m0 (fun i j q => h.all q) hlo (Or.inl ht)
    exact ⟨N, e1, by unfold cntZ; rw [e1]; rfl, e2⟩
  have top : ∀ n x, tmR f a 0 n = some x → x ≤ lo := fun n x hx => by
    have q := h.qp.iter (Nat.le_refl _) n
    rw [eF, Int.mul_zero, Rw.later1_zero] at q
    have le := all (i := n) (j := f.length + n * a.length) (by
      have : n * 1 ≤ n * a.length := Nat.mul_le_mul_left _ h.T0
      omega)
    rw [q, hx] at le
    exact le
  have late : ∀ n, f.length ≤ n → tmR f a 0 n = some lo := fun n hn => by
    obtain ⟨x, hx⟩ := h.live n hn
    have l1 := top n x hx
    have l2 := all hn
    rw [eF, hx] at l2
    have l2 : lo ≤ x := l2
    rw [hx, show x = lo by omega]
  generalize tmR f a 0 = r at all memF nones hc eF top late ⊢
  have aD : ((uniqO f []).filter fun t => decide (t < lo)).Pairwise (· < ·) := (uniqO_asc f [] h.ascF .nil fun y hy => nomatch hy).filter _
  have lD : ((uniqO f []).filter fun t => decide (t < lo)).length ≤ f.length := by
    have h1 := List.length_filter_le (fun t => decide (t < lo)) (uniqO f [])
    have h2 := uniqO_len f []
    rw [List.length_nil] at h2
    omega
  have mD : ∀ x, x ∈ ((uniqO f []).filter fun t => decide (t < lo)) ↔ (∃ n, n < f.length ∧ r n = some x) ∧ x < lo := fun x => by
    rw [List.mem_filter, uniqO_mem, decide_eq_true_iff, memF]
    simp
  unfold stepsF
  generalize (uniqO f []).filter (fun t => decide (t < lo)) = D at aD lD mD ⊢
  generalize cntZ f a 0 = cz at hc
  obtain ⟨b, b1, b2⟩ := below D lo
  have up_ : ∀ x ∈ D, ((nonesN f : Nat) : Int) < cz x ∧ cz x ≤ f.length := fun x hx => by
    obtain ⟨⟨n, hn, e⟩, lt⟩ := (mD x).mp hx
    obtain ⟨N, _, e2, c⟩ := hc x lt
    have a1 := c n
    have a2 := c f.length
    rw [e, upTo_some, decide_eq_true (Int.le_refl _)] at a1
    rw [eF, upTo_some, decide_eq_false (by omega)] at a2
    have a1 : n < N := of_decide_eq_true a1.symm
    have a2 : ¬ f.length < N := of_decide_eq_false a2.symm
    have a3 : ¬ n < nonesN f := fun q => by
      rw [(nones n).mpr q] at e
      cases e
    omega
  have cz_lt : ∀ x ∈ D, ∀ y ∈ D, x < y → cz x < cz y := fun x hx y hy lt => by
    obtain ⟨_, lx⟩ := (mD x).mp hx
    obtain ⟨⟨n, hn, e⟩, ly⟩ := (mD y).mp hy
    obtain ⟨N, _, e1, c1⟩ := hc x lx
    obtain ⟨N2, _, e2, c2⟩ := hc y ly
    have a1 := c1 n
    have a2 := c2 n
    rw [e, upTo_some, decide_eq_false (by omega)] at a1
    rw [e, upTo_some, decide_eq_true (Int.le_refl _)] at a2
    have a1 : ¬ n < N := of_decide_eq_false a1.symm
    have a2 : n < N2 := of_decide_eq_true a2.symm
    omega
  have chain : ChainE b (nonesN f : Nat) (((D.map fun t => ((t, cz t) : Sti)).map up) ++ [(lo, none)]) := by
    refine chainE_of _ b _ lo ?_ (fun x hx => ?_) b1
    · rw [List.pairwise_map]
      refine List.Pairwise.imp_of_mem (fun {x y} hx hy lt => ?_) aD
      exact ⟨lt, cz_lt x hx y hy lt⟩
    · obtain ⟨t, ht, rfl⟩ := List.mem_map.mp hx
      exact ⟨b2 t ht, (up_ t ht).1, ((mD t).mp ht).2⟩
  refine ⟨D.map fun t => (t, cz t), b, ?_, chain, by rw [List.length_map]; exact lD, fun x hx => ?_, fun time => ?_⟩
  · rw [List.map_map]
    refine List.map_congr_left fun t ht => ?_
    obtain ⟨N, e1, e2, _⟩ := hc t ((mD t).mp ht).2
    show (t, cntR f a 0 t) = (t, some (cz t))
    rw [e1, e2]
  · obtain ⟨t, ht, rfl⟩ := List.mem_map.mp hx
    have := up_ t ht
    exact ⟨by show 0 ≤ cz t; omega, this.2⟩
  · obtain ⟨as, _⟩ := chainE_asc chain
    have told := atL_told (u := some ((nonesN f : Nat) : Int)) (a := []) (t := 0) (m := 0) (time := time) as .nil (fun z => absurd rfl z)
    generalize atL (some ((nonesN f : Nat) : Int)) ((D.map fun t => ((t, cz t) : Sti)).map up ++ [(lo, none)]) [] 0 0 time = v at told
    have lg : ((D.map fun t => ((t, cz t) : Sti)).map up).length = D.length := by rw [List.length_map, List.length_map]
    have atD : ∀ i (hi : i < D.length), (((D.map fun t => ((t, cz t) : Sti)).map up) ++ [(lo, none)])[i]? = some (D[i], some (cz D[i])) := fun i hi => by
      rw [List.getElem?_append_left (by omega), List.getElem?_map, List.getElem?_map, List.getElem?_eq_getElem hi]
      rfl
    have atL_ : (((D.map fun t => ((t, cz t) : Sti)).map up) ++ [(lo, none)])[D.length]? = some (lo, none) := by
      rw [List.getElem?_append_right (by omega), lg, Nat.sub_self]
      rfl
    have vals : ∀ k x, r k = some x → x = lo ∨ ∃ j, ∃ hj : j < D.length, D[j] = x := fun k x hx => by
      by_cases c : x < lo
      · have hk : k < f.length := by
          rcases Nat.lt_or_ge k f.length with q | q
          · exact q
          · rw [late k q] at hx
            cases hx
            omega
        obtain ⟨j, hj, e⟩ := List.getElem_of_mem ((mD x).mpr ⟨⟨k, hk, hx⟩, c⟩)
        exact Or.inr ⟨j, hj, e⟩
      · have := top k x hx
        exact Or.inl (by omega)
    cases told with
    | rep x y n hx => cases hx
    | none _ e =>
      refine Or.inr ⟨nonesN f, rfl, fun k => ?_⟩
      cases hk : r k with
      | none => rw [decide_eq_true ((nones k).mp hk)]; rfl
      | some x =>
        have gt_ : time < x := by
          rcases vals k x hk with rfl | ⟨j, hj, rfl⟩
          · exact e.hi _ _ (Nat.zero_le _) atL_
          · exact e.hi _ _ (Nat.zero_le _) (atD j hj)
        rw [upTo_some, decide_eq_false (by omega), decide_eq_false (fun q => by rw [(nones k).mpr q] at hk; cases hk)]
    | some y n _ e hy =>
      by_cases c : n < D.length
      · rw [atD n c] at hy
        cases hy
        have lt : D[n] < lo := ((mD _).mp (List.getElem_mem c)).2
        obtain ⟨N, _, e2, c2⟩ := hc D[n] lt
        refine Or.inr ⟨N, by show some (cz D[n]) = _; rw [e2], fun k => ?_⟩
        rw [← c2 k]
        cases hk : r k with
        | none => rfl
        | some x =>
          have l1 := e.lo n _ (Nat.lt_succ_self n) (atD n c)
          have l1 : D[n] ≤ time := l1
          rw [upTo_some, upTo_some]
          rcases vals k x hk with rfl | ⟨j, hj, rfl⟩
          · have := e.hi _ _ (by omega) atL_
            have : time < x := this
            rw [decide_eq_false (by omega), decide_eq_false (by omega)]
          · rcases Nat.lt_or_ge n j with q | q
            · have := e.hi _ _ (by omega) (atD j hj)
              have : time < D[j] := this
              have := List.pairwise_iff_getElem.mp aD n j c hj q
              rw [decide_eq_false (by omega), decide_eq_false (by omega)]
            · have : D[j] ≤ D[n] := by
                rcases Nat.eq_or_lt_of_le q with z | z
                · subst z
                  exact Int.le_refl _
                · exact Int.le_of_lt (List.pairwise_iff_getElem.mp aD j n hj c z)
              rw [decide_eq_true (by omega), decide_eq_true (by omega)]
      · have hl := e.le
        rw [List.length_append, lg, List.length_singleton] at hl
        have : n = D.length := by omega
        subst this
        rw [atL_] at hy
        cases hy
        have l1 := e.lo _ _ (Nat.lt_succ_self _) atL_
        have l1 : lo ≤ time := l1
        refine Or.inl ⟨rfl, fun k => ?_⟩
        cases hk : r k with
        | none => rfl
        | some x =>
          have := top k x hk
          exact decide_eq_true (by omega)
end
end My

namespace My
open PySem PySem.Spec PyProof.Rows L2
local macro_rules | `(tactic| walk_at "side") => `(tactic| first | (dsimp only; omega) | exact ⟨by omega, by omega⟩ | exact Or.inl ⟨by omega, by omega⟩ | exact Or.inr ⟨by omega, by omega⟩ | decide)
local macro_rules | `(tactic| walk_at "sq") => `(tactic| first | assumption | exact SqL.of (by assumption) | exact SqT.of (by assumption) | (refine L2.Same.seq (by assumption) ?_; walk_at "sq") | (refine L2.Same.seqT (by assumption) ?_; walk_at "sq") | exact Or.inl (by walk_at "sq") | exact Or.inr (by walk_at "sq"))
local macro_rules | `(tactic| walk_at "1") => `(tactic| first
  | refine ⟨_, rfl, iteT ?_⟩
  | refine ⟨_, rfl, iteF ?_⟩
  | refine ⟨_, rfl, ?_⟩
  | refine ⟨_, _, rfl, rfl, (by walk_at "side"), ?_⟩
  | refine ⟨_, _, rfl, rfl, ?_⟩
  | refine ⟨_, _, _, _, true, rfl, .ty _, .base (.int _), kit_ty (a := "int") (by decide +kernel), ?_⟩
  | refine ⟨_, _, _, _, false, rfl, .ty _, .base (.int _), kit_ty (a := "int") (by decide +kernel), ?_⟩
  | refine ⟨_, _, rfl, (by walk_at "sq"), ?_⟩
  | refine ⟨_, _, _, _, rfl, rfl, (by walk_at "sq"), (by first | rfl | assumption), ?_⟩
  | refine Or.inl ⟨_, _, _, _, rfl, rfl, (by walk_at "sq"), (by first | rfl | assumption), ?_⟩
  | refine Or.inr (Or.inl ⟨_, _, _, _, rfl, rfl, (by walk_at "sq"), (by first | rfl | assumption), ?_⟩)
  | refine ⟨_, _, rfl, Or.inl ⟨(by walk_at "sq"), ?_⟩⟩
  | refine ⟨rfl, ?_⟩
  | refine iteT ?_
  | refine iteF ?_
  | refine ⟨_, _, _, _, _, rfl, (by assumption), (by assumption), (by assumption), (by assumption), ?_⟩
  | refine Or.inl ⟨_, rfl, ?_⟩
  | refine Or.inr ⟨_, rfl, ?_⟩
  | refine ⟨_, _, rfl, (by walk_at "side"), ?_⟩
  | refine ⟨_, _, rfl, ?_⟩)
local macro_rules | `(tactic| walk_at "fld") => `(tactic| skip)
local macro_rules | `(tactic| walk_at "s") => `(tactic| repeat walk_at "1")
local macro_rules | `(tactic| walk_at "size") => `(tactic| first | exact Nat.le_of_ble_eq_true rfl | (simp only [List.length_map, List.length_append, List.length_cons, List.length_nil]; omega))
local macro_rules | `(tactic| walk_at "new") => `(tactic| (first | refine ⟨(by walk_at "size"), fun p hp => ?_⟩ | refine fun p hp => ?_); (generalize hq : upd _ p _ = H1); (obtain ⟨s, e⟩ := new_facts hp hq); clear hq)
/-! least tallies, by what they tell -/
theorem LastB.uniq {ds : List Stp} {t : Int} {n k : Nat} (h : LastB ds t n) (h' : LastB ds t k) : n = k := by
  have one : ∀ {n k : Nat}, LastB ds t n → LastB ds t k → ¬ n < k := fun {n k} a b lt => by
    have hl : n < ds.length := by have := b.le; omega
    have e := List.getElem?_eq_getElem hl
    have h1 := a.hi n _ (Nat.le_refl _) e
    have h2 := b.lo n _ lt e
    omega
  have h1 := one h h'
  have h2 := one h' h
  omega
theorem told_fun0 {u : Option Int} {f : List Stp} {t m time : Int} {v v' : Option Int} (h : ToldT u f [] t m time v) (h' : ToldT u f [] t m time v') : v = v' := by
  cases h with
  | rep x y n hx => cases hx
  | none _ e =>
    cases h' with
    | rep x y n hx => cases hx
    | none _ _ => rfl
    | some y n _ e2 _ =>
      have := e.uniq e2
      omega
  | some y n _ e g =>
    cases h' with
    | rep x y n hx => cases hx
    | none _ e2 =>
      have := e.uniq e2
      omega
    | some y2 n2 _ e2 g2 =>
      have := e.uniq e2
      have : n = n2 := by omega
      subst this
      rw [g] at g2
      rw [Option.some.inj g2]
inductive CanT (B : Nat) : Option Int → List Stp → List Sti → Int → Int → Prop
  | none : CanT B none [] [] 0 0
  | ends (u : Nat) (b T : Int) (g : List Sti) (hc : ChainE b (u : Int) (g.map up ++ [(T, none)])) (hu : u ≤ B) (hb : ∀ x ∈ g, 0 ≤ x.2 ∧ x.2 ≤ B) (hl : g.length ≤ 899) : CanT B (some (u : Int)) (g.map up ++ [(T, none)]) [] 0 0
  | turns (u : Nat) (g a : List Sti) (t m : Int) (s : Nat → Sti) (A : Canon g a t m s) (G : Steps u g a t m s) (hb : (s (g.length + a.length)).2 ≤ B) : CanT B (some (u : Int)) (g.map up) a t m
section
variable {B B2 : Nat} {u u2 : Option Int} {f f2 : List Stp} {a a2 : List Sti} {t m t2 m2 : Int}
theorem CanT.parts (h : CanT B u f a t m) : PartsT f a t m := by
  cases h with
  | none => exact ⟨by decide, by decide, .nil, .nil, fun z => absurd rfl z, by decide, by decide, by decide⟩
  | ends u b T g hc hu hb hl => exact ⟨by rw [List.length_append, List.length_map, List.length_singleton]; omega, by decide, (chainE_asc hc).1, .nil, fun z => absurd rfl z, by decide, by decide, by decide⟩
  | turns u g a t m s A G hb =>
    obtain ⟨as1, as2⟩ := asc_parts G.seq G.rise
    obtain ⟨tp, mp⟩ := turn_pos G.rise G.seq
    have h1 := G.lg
    have h2 := G.la
    exact ⟨by rw [List.length_map]; omega, by omega, as1, as2, fun _ => tp, G.t1, by omega, G.m1⟩
theorem CanT.told (h : CanT B u f a t m) {time : Int} {v : Option Int} (T : ToldT u f a t m time v) : v = atL u f a t m time := by
  have p := h.parts
  have T2 := atL_told (u := u) (m := m) (time := time) p.sf p.sa p.t0
  cases h with
  | none => exact told_fun0 T T2
  | ends u b T' g hc hu hb hl => exact told_fun0 T T2
  | turns u g a t m s A G hb =>
    obtain ⟨tp, _⟩ := turn_pos G.rise G.seq
    exact (told_tell G.seq tp T).fun G.rise (told_tell G.seq tp T2)
theorem ends_early {u b T time : Int} {g : List Sti} (hc : ChainE b u (g.map up ++ [(T, none)])) (h : time ≤ b) : atL (some u) (g.map up ++ [(T, none)]) [] 0 0 time = some u := fold_low _ hc h
theorem ends_late {u T : Int} {g : List Sti} {time : Int} (h : T ≤ time) : atL (some u) (g.map up ++ [(T, none)]) [] 0 0 time = none := by
  show (g.map up ++ [(T, none)]).foldl (firstAt time) (some u) = none
  rw [List.foldl_append]
  exact if_pos h
theorem turns_some {u : Int} {g a : List Sti} {t m : Int} {s : Nat → Sti} (G : Steps u g a t m s) (time : Int) : ∃ c, atL (some u) (g.map up) a t m time = some c := by
  rcases G.tell time with ⟨_, e⟩ | ⟨n, _, _, e⟩
  · exact ⟨_, e⟩
  · exact ⟨_, e⟩
theorem tell_at {u : Option Int} {s : Nat → Sti} (R : Rise s) (n : Nat) : Tell u s (s n).1 (some (s n).2) := Or.inr ⟨n, Int.le_refl _, (R n).1, rfl⟩
/-- what is told fixes the steps -/
theorem steps_one {u u2 : Int} {s s2 : Nat → Sti} (R : Rise s) (R2 : Rise s2) (un : u < (s 0).2) (un2 : u2 < (s2 0).2) {c : Int → Option Int} (T : ∀ time, Tell (some u) s time (c time)) (T2 : ∀ time, Tell (some u2) s2 time (c time)) : u = u2 ∧ ∀ n, s n = s2 n := by
  have eu : u = u2 := by
    obtain ⟨τ, h1, h2⟩ : ∃ τ : Int, τ < (s 0).1 ∧ τ < (s2 0).1 := ⟨min (s 0).1 (s2 0).1 - 1, by omega, by omega⟩
    have a1 := (T τ).fun R (Or.inl ⟨h1, rfl⟩)
    have a2 := (T2 τ).fun R2 (Or.inl ⟨h2, rfl⟩)
    rw [a1] at a2
    exact Option.some.inj a2
  subst eu
  refine ⟨rfl, fun n => ?_⟩
  induction n using Nat.strongRecOn with
  | _ n ih =>
    -- a step is not told by the other before its own
    have no : ∀ {s s2 : Nat → Sti} (R : Rise s) (R2 : Rise s2) (un : u < (s 0).2), (∀ time, Tell (some u) s time (c time)) → (∀ time, Tell (some u) s2 time (c time)) → (∀ k, k < n → s k = s2 k) → ¬ (s n).1 < (s2 n).1 := fun {s s2} R R2 un T T2 ih lt => by
      have a1 := (T (s n).1).fun R (tell_at R n)
      cases n with
      | zero =>
        have a2 := (T2 (s 0).1).fun R2 (Or.inl ⟨lt, rfl⟩)
        rw [a1] at a2
        have := Option.some.inj a2
        omega
      | succ k =>
        have e := ih k (Nat.lt_succ_self k)
        have l1 := (R k).1
        have a2 := (T2 (s (k + 1)).1).fun R2 (Or.inr ⟨k, by rw [← e]; omega, lt, rfl⟩)
        rw [a1] at a2
        have := Option.some.inj a2
        have l2 := (R k).2
        rw [← e] at this
        omega
    have n1 := no R R2 un T T2 ih
    have n2 := no R2 R un2 T2 T (fun k hk => (ih k hk).symm)
    have et : (s n).1 = (s2 n).1 := by omega
    have a1 := (T (s n).1).fun R (tell_at R n)
    have a2 := (T2 (s2 n).1).fun R2 (tell_at R2 n)
    rw [← et, a1] at a2
    exact Prod.ext et (Option.some.inj a2)
theorem CanT.uniq (h : CanT B u f a t m) (h2 : CanT B2 u2 f2 a2 t2 m2) (W : ∀ time, atL u f a t m time = atL u2 f2 a2 t2 m2 time) : u = u2 ∧ f = f2 ∧ a = a2 ∧ t = t2 ∧ m = m2 := by
  cases h with
  | none =>
    cases h2 with
    | none => exact ⟨rfl, rfl, rfl, rfl, rfl⟩
    | ends v b T g hc hu hb hl =>
      have := W b
      rw [ends_early hc (Int.le_refl _)] at this
      cases this
    | turns v g a t m s A G hb =>
      obtain ⟨c, e⟩ := turns_some G 0
      have := W 0
      rw [e] at this
      cases this
  | ends w b T g hc hu hb hl =>
    cases h2 with
    | none =>
      have := W b
      rw [ends_early hc (Int.le_refl _)] at this
      cases this
    | ends v b2 T2 g2 hc2 hu2 hb2 hl2 =>
      have e := W (min b b2)
      rw [ends_early hc (by omega), ends_early hc2 (by omega)] at e
      have e := Option.some.inj e
      rw [← e] at hc2 W ⊢
      have := ends_eq (chainE_less hc (by omega : min b b2 ≤ b)) (chainE_less hc2 (by omega : min b b2 ≤ b2)) fun time _ => W time
      exact ⟨rfl, this, rfl, rfl, rfl⟩
    | turns v g a t m s A G hb =>
      obtain ⟨c, e⟩ := turns_some G T
      have := W T
      rw [ends_late (Int.le_refl _), e] at this
      cases this
  | turns w g a t m s A G hb =>
    cases h2 with
    | none =>
      obtain ⟨c, e⟩ := turns_some G 0
      have := W 0
      rw [e] at this
      cases this
    | ends v b T g2 hc hu hb hl =>
      obtain ⟨c, e⟩ := turns_some G T
      have := W T
      rw [ends_late (Int.le_refl _), e] at this
      cases this
    | turns v g2 a2 t2 m2 s2 A2 G2 hb2 =>
      have Tb : ∀ time, Tell (some (v : Int)) s2 time (atL (some (w : Int)) (g.map up) a t m time) := fun time => by
        rw [W time]
        exact G2.tell time
      obtain ⟨eu, es⟩ := steps_one G.rise G2.rise G.un G2.un G.tell Tb
      have es : s = s2 := funext es
      subst es
      obtain ⟨e1, e2, e3, e4⟩ := A.uniq A2
      exact ⟨by rw [eu], by rw [e1], e2, e3, e4⟩
/-- what is made of steps that rise -/
theorem can_turns {u : Nat} {g a : List Sti} {t m : Int} {s : Nat → Sti} {f' : List Stp} {a' : List Sti} {t' m' : Int} (G : Steps u g a t m s) (hb : (s (g.length + a.length)).2 ≤ B) (M : MadeT (g.map up) a t m f' a' t' m') :
    CanT B (some (u : Int)) f' a' t' m' ∧ (∀ time, atL (some (u : Int)) f' a' t' m' time = atL (some (u : Int)) (g.map up) a t m time) ∧ lowN m' t' = lowN m t ∧ lowD m' t' = lowD m t ∧ a' ≠ [] := by
  obtain ⟨g', rfl, A, G', p, ⟨r1, r2⟩, l1, l2⟩ := made_steps G M
  have ne : a' ≠ [] := fun z => by
    have := G'.seq.pos
    rw [z] at this
    exact absurd this (by decide)
  refine ⟨.turns u g' a' t' m' s A G' ?_, fun time => (G'.tell time).fun G.rise (G.tell time), r1, r2, ne⟩
  have := G.rise.le2 (i := g'.length + a'.length) (j := g.length + a.length) (by omega)
  omega
theorem can_ends {u : Nat} {b T : Int} {g : List Sti} {f' : List Stp} {a' : List Sti} {t' m' : Int} (hc : ChainE b (u : Int) (g.map up ++ [(T, none)])) (hu : u ≤ B) (hb : ∀ x ∈ g, 0 ≤ x.2 ∧ x.2 ≤ B) (hl : g.length ≤ 899) (M : MadeT (g.map up ++ [(T, none)]) [] 0 0 f' a' t' m') :
    CanT B (some (u : Int)) f' a' t' m' ∧ (∀ time, atL (some (u : Int)) f' a' t' m' time = atL (some (u : Int)) (g.map up ++ [(T, none)]) [] 0 0 time) ∧ a' = [] := by
  obtain ⟨rfl, rfl, rfl, rfl⟩ := made_nil M
  exact ⟨.ends u b T g hc hu hb hl, fun _ => rfl, rfl⟩
end
end My

namespace My
open PySem PySem.Spec PyProof.Rows L2
local macro_rules | `(tactic| walk_at "side") => `(tactic| first | (dsimp only; omega) | exact ⟨by omega, by omega⟩ | exact Or.inl ⟨by omega, by omega⟩ | exact Or.inr ⟨by omega, by omega⟩ | decide)
local macro_rules | `(tactic| walk_at "sq") => `(tactic| first | assumption | exact SqL.of (by assumption) | exact SqT.of (by assumption) | (refine L2.Same.seq (by assumption) ?_; walk_at "sq") | (refine L2.Same.seqT (by assumption) ?_; walk_at "sq") | exact Or.inl (by walk_at "sq") | exact Or.inr (by walk_at "sq"))
local macro_rules | `(tactic| walk_at "1") => `(tactic| first
  | refine ⟨_, rfl, iteT ?_⟩
  | refine ⟨_, rfl, iteF ?_⟩
  | refine ⟨_, rfl, ?_⟩
  | refine ⟨_, _, rfl, rfl, (by walk_at "side"), ?_⟩
  | refine ⟨_, _, rfl, rfl, ?_⟩
  | refine ⟨_, _, _, _, true, rfl, .ty _, .base (.int _), kit_ty (a := "int") (by decide +kernel), ?_⟩
  | refine ⟨_, _, _, _, false, rfl, .ty _, .base (.int _), kit_ty (a := "int") (by decide +kernel), ?_⟩
  | refine ⟨_, _, rfl, (by walk_at "sq"), ?_⟩
  | refine ⟨_, _, _, _, rfl, rfl, (by walk_at "sq"), (by first | rfl | assumption), ?_⟩
  | refine Or.inl ⟨_, _, _, _, rfl, rfl, (by walk_at "sq"), (by first | rfl | assumption), ?_⟩
  | refine Or.inr (Or.inl ⟨_, _, _, _, rfl, rfl, (by walk_at "sq"), (by first | rfl | assumption), ?_⟩)
  | refine ⟨_, _, rfl, Or.inl ⟨(by walk_at "sq"), ?_⟩⟩
  | refine ⟨rfl, ?_⟩
  | refine iteT ?_
  | refine iteF ?_
  | refine ⟨_, _, _, _, _, rfl, (by assumption), (by assumption), (by assumption), (by assumption), ?_⟩
  | refine Or.inl ⟨_, rfl, ?_⟩
  | refine Or.inr ⟨_, rfl, ?_⟩
  | refine ⟨_, _, rfl, (by walk_at "side"), ?_⟩
  | refine ⟨_, _, rfl, ?_⟩)
local macro_rules | `(tactic| walk_at "fld") => `(tactic| skip)
local macro_rules | `(tactic| walk_at "s") => `(tactic| repeat walk_at "1")
local macro_rules | `(tactic| walk_at "size") => `(tactic| first | exact Nat.le_of_ble_eq_true rfl | (simp only [List.length_map, List.length_append, List.length_cons, List.length_nil]; omega))
local macro_rules | `(tactic| walk_at "new") => `(tactic| (first | refine ⟨(by walk_at "size"), fun p hp => ?_⟩ | refine fun p hp => ?_); (generalize hq : upd _ p _ = H1); (obtain ⟨s, e⟩ := new_facts hp hq); clear hq)
/-! the row of a tally: its times by blocks -/
open Rw (leO upTo tmR gt cntR Qp later1)
def spreadI : Int → List Sti → List Int
  | _, [] => []
  | told, x :: r => List.replicate (x.2 - told).toNat x.1 ++ spreadI x.2 r
theorem spread_map : ∀ (u : Int) (ss : List Sti), spread u ss = (spreadI u ss).map some
  | _, [] => rfl
  | u, x :: r => by
    show List.replicate _ _ ++ spread x.2 r = (List.replicate _ _ ++ spreadI x.2 r).map some
    rw [List.map_append, List.map_replicate, spread_map x.2 r]
theorem spreadI_mem : ∀ {u : Int} {ss : List Sti} {y : Int}, y ∈ spreadI u ss → ∃ x ∈ ss, y = x.1
  | _, [], _, h => nomatch h
  | u, x :: r, y, h => by
    rcases List.mem_append.mp h with q | q
    · exact ⟨x, .head _, (List.mem_replicate.mp q).2⟩
    · obtain ⟨z, hz, e⟩ := spreadI_mem q
      exact ⟨z, .tail _ hz, e⟩
theorem spreadI_asc : ∀ {u : Int} {ss : List Sti}, ss.Pairwise (fun x y => x.1 ≤ y.1) → (spreadI u ss).Pairwise (· ≤ ·)
  | _, [], _ => .nil
  | u, x :: r, h => by
    obtain ⟨h1, h2⟩ := List.pairwise_cons.mp h
    refine List.pairwise_append.mpr ⟨List.pairwise_replicate.mpr (Or.inr (Int.le_refl _)), spreadI_asc h2, fun y hy z hz => ?_⟩
    obtain ⟨w, hw, rfl⟩ := spreadI_mem hz
    rw [(List.mem_replicate.mp hy).2]
    exact h1 w hw
/-- counts that never fall -/
def RiseC : Int → List Sti → Prop
  | _, [] => True
  | c, x :: r => c ≤ x.2 ∧ RiseC x.2 r
theorem RiseC.last : ∀ {c : Int} {ss : List Sti}, RiseC c ss → c ≤ lastC c ss
  | _, [], _ => Int.le_refl _
  | c, x :: r, h => by
    rw [lastC_cons]
    have := RiseC.last h.2
    have := h.1
    omega
theorem RiseC.take : ∀ {c : Int} {ss : List Sti} (k : Nat), RiseC c ss → RiseC c (ss.take k)
  | _, [], k, _ => by rw [List.take_nil]; trivial
  | c, x :: r, 0, _ => trivial
  | c, x :: r, k + 1, h => ⟨h.1, RiseC.take k h.2⟩
theorem RiseC.len : ∀ {c : Int} {ss : List Sti}, RiseC c ss → ((spread c ss).length : Int) = lastC c ss - c
  | c, [], _ => by
    show ((0 : Nat) : Int) = c - c
    omega
  | c, x :: r, h => by
    show ((List.replicate (x.2 - c).toNat (some x.1) ++ spread x.2 r).length : Int) = _
    rw [List.length_append, List.length_replicate, lastC_cons]
    have := RiseC.len h.2
    have := h.1
    omega
theorem RiseC.block : ∀ {c : Int} {ss : List Sti}, RiseC c ss → ∀ n : Nat, (n : Int) + c < lastC c ss → ∃ i x, ss[i]? = some x ∧ lastC c (ss.take i) ≤ n + c ∧ (n : Int) + c < x.2
  | c, [], _, n, h => by
    have : (n : Int) + c < c := h
    omega
  | c, x :: r, h, n, hn => by
    rw [lastC_cons] at hn
    by_cases q : (n : Int) + c < x.2
    · exact ⟨0, x, rfl, by show c ≤ _; omega, q⟩
    · have h1 := h.1
      obtain ⟨i, y, e, l1, l2⟩ := RiseC.block h.2 (n - (x.2 - c).toNat) (by omega)
      refine ⟨i + 1, y, e, ?_, by omega⟩
      rw [List.take_succ_cons, lastC_cons]
      omega
theorem RiseC.at_ : ∀ {c : Int} {ss : List Sti}, RiseC c ss → ∀ (n i : Nat) (x : Sti), ss[i]? = some x → lastC c (ss.take i) ≤ n + c → (n : Int) + c < x.2 → (spread c ss)[n]? = some (some x.1)
  | c, [], _, n, i, x, e, _, _ => by cases i <;> cases e
  | c, y :: r, h, n, 0, x, e, l1, l2 => by
    cases e
    show (List.replicate (y.2 - c).toNat (some y.1) ++ spread y.2 r)[n]? = _
    rw [List.getElem?_append_left (by rw [List.length_replicate]; omega), List.getElem?_replicate, if_pos (by omega)]
  | c, y :: r, h, n, i + 1, x, e, l1, l2 => by
    rw [List.take_succ_cons, lastC_cons] at l1
    have l3 := (h.2.take i).last
    have h1 := h.1
    show (List.replicate (y.2 - c).toNat (some y.1) ++ spread y.2 r)[n]? = _
    rw [List.getElem?_append_right (by rw [List.length_replicate]; omega), List.length_replicate]
    exact RiseC.at_ h.2 (n - (y.2 - c).toNat) i x e (by omega) (by omega)
theorem timesM_len {u : Int} {ss : List Sti} (u0 : 0 ≤ u) (h : RiseC u ss) : ((timesM u ss).length : Int) = lastC u ss := by
  unfold timesM
  rw [List.length_append, List.length_replicate]
  have := h.len
  omega
theorem timesM_none {u : Int} {ss : List Sti} (n : Nat) (h : (n : Int) < u) : (timesM u ss)[n]? = some none := by
  unfold timesM
  rw [List.getElem?_append_left (by rw [List.length_replicate]; omega), List.getElem?_replicate, if_pos (by omega)]
theorem timesM_at {u : Int} {ss : List Sti} (u0 : 0 ≤ u) (h : RiseC u ss) (n i : Nat) (x : Sti) (e : ss[i]? = some x) (l1 : lastC u (ss.take i) ≤ n) (l2 : (n : Int) < x.2) : (timesM u ss)[n]? = some (some x.1) := by
  have l3 := (h.take i).last
  unfold timesM
  rw [List.getElem?_append_right (by rw [List.length_replicate]; omega), List.length_replicate]
  exact h.at_ (n - u.toNat) i x e (by omega) (by omega)
/-- the row of a tally that ends, its shape -/
theorem ends_shape {u : Nat} {b T : Int} {g : List Sti} {B : Nat} (hB : B ≤ 200) (hc : ChainE b (u : Int) (g.map up ++ [(T, none)])) (hu : u ≤ B) (hb : ∀ x ∈ g, 0 ≤ x.2 ∧ x.2 ≤ B) : RiseC u g ∧ GoIn u g ∧ Rw.ShapeG (timesM u g) [some T] 0 ∧ lastC u g ≤ B := by
  have rc : ∀ {g : List Sti} {b c : Int}, ChainE b c (g.map up ++ [(T, none)]) → RiseC c g ∧ g.Pairwise (fun x y => x.1 ≤ y.1) ∧ ∀ x ∈ g, x.1 ≤ T := fun {g b c} => by
    induction g generalizing b c with
    | nil => exact fun _ => ⟨trivial, .nil, fun x h => nomatch h⟩
    | cons x r ih =>
      intro h
      obtain ⟨h1, h2⟩ := chainE_head h
      rcases h2 with ⟨e, _⟩ | ⟨c', e, lt, hr⟩
      · cases e
      · cases e
        obtain ⟨i1, i2, i3⟩ := ih hr
        have hr' := chainE_asc hr
        refine ⟨⟨Int.le_of_lt lt, i1⟩, List.pairwise_cons.mpr ⟨fun y hy => ?_, i2⟩, fun y hy => ?_⟩
        · exact Int.le_of_lt (hr'.2 (up y) (List.mem_append_left _ (List.mem_map.mpr ⟨y, hy, rfl⟩)))
        · rcases List.mem_cons.mp hy with rfl | q
          · exact Int.le_of_lt (hr'.2 (T, none) (List.mem_append_right _ (.head _)))
          · exact i3 y q
  obtain ⟨h1, h2, h3⟩ := rc hc
  have ll : lastC u g ≤ B := by
    unfold lastC
    cases e : g.getLast? with
    | none => show (u : Int) ≤ B; omega
    | some x => exact (hb x (List.mem_of_getLast? e)).2
  have len := timesM_len (u := (u : Int)) (by omega) h1
  refine ⟨h1, ⟨by omega, by omega, fun x hx => by have := hb x hx; omega, by omega⟩, ⟨u, spreadI u g, [T], T, T, ?_, rfl, ?_, rfl, rfl, by omega, by decide, by omega, ?_, by show 1 ≤ 400; decide, fun _ _ => ⟨trivial, trivial⟩⟩, ll⟩
  · unfold timesM
    rw [spread_map, Int.toNat_natCast]
  · refine List.pairwise_append.mpr ⟨spreadI_asc h2, List.pairwise_singleton _ _, fun y hy z hz => ?_⟩
    obtain ⟨w, hw, rfl⟩ := spreadI_mem hy
    rw [List.mem_singleton.mp hz]
    exact h3 w hw
  · unfold timesM at len
    rw [spread_map, List.length_append, List.length_replicate, List.length_map, Int.toNat_natCast] at len
    omega
end My

namespace My
open PySem PySem.Spec PyProof.Rows L2
local macro_rules | `(tactic| walk_at "side") => `(tactic| first | (dsimp only; omega) | exact ⟨by omega, by omega⟩ | exact Or.inl ⟨by omega, by omega⟩ | exact Or.inr ⟨by omega, by omega⟩ | decide)
local macro_rules | `(tactic| walk_at "sq") => `(tactic| first | assumption | exact SqL.of (by assumption) | exact SqT.of (by assumption) | (refine L2.Same.seq (by assumption) ?_; walk_at "sq") | (refine L2.Same.seqT (by assumption) ?_; walk_at "sq") | exact Or.inl (by walk_at "sq") | exact Or.inr (by walk_at "sq"))
local macro_rules | `(tactic| walk_at "1") => `(tactic| first
  | refine ⟨_, rfl, iteT ?_⟩
  | refine ⟨_, rfl, iteF ?_⟩
  | refine ⟨_, rfl, ?_⟩
  | refine ⟨_, _, rfl, rfl, (by walk_at "side"), ?_⟩
  | refine ⟨_, _, rfl, rfl, ?_⟩
  | refine ⟨_, _, _, _, true, rfl, .ty _, .base (.int _), kit_ty (a := "int") (by decide +kernel), ?_⟩
  | refine ⟨_, _, _, _, false, rfl, .ty _, .base (.int _), kit_ty (a := "int") (by decide +kernel), ?_⟩
  | refine ⟨_, _, rfl, (by walk_at "sq"), ?_⟩
  | refine ⟨_, _, _, _, rfl, rfl, (by walk_at "sq"), (by first | rfl | assumption), ?_⟩
  | refine Or.inl ⟨_, _, _, _, rfl, rfl, (by walk_at "sq"), (by first | rfl | assumption), ?_⟩
  | refine Or.inr (Or.inl ⟨_, _, _, _, rfl, rfl, (by walk_at "sq"), (by first | rfl | assumption), ?_⟩)
  | refine ⟨_, _, rfl, Or.inl ⟨(by walk_at "sq"), ?_⟩⟩
  | refine ⟨rfl, ?_⟩
  | refine iteT ?_
  | refine iteF ?_
  | refine ⟨_, _, _, _, _, rfl, (by assumption), (by assumption), (by assumption), (by assumption), ?_⟩
  | refine Or.inl ⟨_, rfl, ?_⟩
  | refine Or.inr ⟨_, rfl, ?_⟩
  | refine ⟨_, _, rfl, (by walk_at "side"), ?_⟩
  | refine ⟨_, _, rfl, ?_⟩)
local macro_rules | `(tactic| walk_at "fld") => `(tactic| skip)
local macro_rules | `(tactic| walk_at "s") => `(tactic| repeat walk_at "1")
local macro_rules | `(tactic| walk_at "size") => `(tactic| first | exact Nat.le_of_ble_eq_true rfl | (simp only [List.length_map, List.length_append, List.length_cons, List.length_nil]; omega))
local macro_rules | `(tactic| walk_at "new") => `(tactic| (first | refine ⟨(by walk_at "size"), fun p hp => ?_⟩ | refine fun p hp => ?_); (generalize hq : upd _ p _ = H1); (obtain ⟨s, e⟩ := new_facts hp hq); clear hq)
/-! the row of a tally counts what the tally tells -/
open Rw (leO upTo tmR gt cntR Qp later1)
theorem ends_cnt {u : Nat} {b T : Int} {g : List Sti} {B : Nat} (hB : B ≤ 200) (hc : ChainE b (u : Int) (g.map up ++ [(T, none)])) (hu : u ≤ B) (hb : ∀ x ∈ g, 0 ≤ x.2 ∧ x.2 ≤ B) (time : Int) :
    CntOf (tmR (timesM u g) [some T] 0) time (atL (some (u : Int)) (g.map up ++ [(T, none)]) [] 0 0 time) := by
  obtain ⟨rc, _, _, _⟩ := ends_shape hB hc hu hb
  have len := timesM_len (u := (u : Int)) (by omega) rc
  -- what the row's times are
  have early : ∀ n : Nat, n < u → tmR (timesM u g) [some T] 0 n = none := fun n h => by
    have h1 := rc.last
    rw [Rw.tm_f (by omega)]
    unfold gt
    rw [timesM_none n (by omega)]
    rfl
  have mid : ∀ n : Nat, u ≤ n → (n : Int) < lastC u g → ∃ i x, g[i]? = some x ∧ lastC u (g.take i) ≤ n ∧ (n : Int) < x.2 ∧ tmR (timesM u g) [some T] 0 n = some x.1 := fun n h1 h2 => by
    obtain ⟨i, x, e, l1, l2⟩ := rc.block (n - u) (by omega)
    refine ⟨i, x, e, by omega, by omega, ?_⟩
    rw [Rw.tm_f (by omega)]
    unfold gt
    rw [timesM_at (by omega) rc n i x e (by omega) (by omega)]
    rfl
  have late : ∀ n : Nat, lastC u g ≤ n → tmR (timesM u g) [some T] 0 n = some T := fun n h => by
    unfold tmR
    rw [if_neg (by omega), Int.mul_zero, Rw.later1_zero]
    have : (n - (timesM (u : Int) g).length) % ([some T] : List (Option Int)).length = 0 := Nat.mod_one _
    rw [this]
    rfl
  obtain ⟨as, _⟩ := chainE_asc hc
  have told := atL_told (u := some (u : Int)) (a := []) (t := 0) (m := 0) (time := time) as .nil (fun z => absurd rfl z)
  generalize atL (some (u : Int)) (g.map up ++ [(T, none)]) [] 0 0 time = v at told
  have atG : ∀ i x, g[i]? = some x → (g.map up ++ [(T, none)])[i]? = some (up x) := fun i x e => by
    have := (List.getElem?_eq_some_iff.mp e).1
    rw [List.getElem?_append_left (by rw [List.length_map]; exact this), List.getElem?_map, e]
    rfl
  have atT : (g.map up ++ [(T, none)])[g.length]? = some (T, none) := by
    rw [List.getElem?_append_right (by rw [List.length_map]; exact Nat.le_refl _), List.length_map, Nat.sub_self]
    rfl
  have prevs : ∀ i x j y, g[i]? = some x → g[j]? = some y → i < j → x.2 ≤ lastC u (g.take j) := fun i x j y ei ej hij => by
    have hj := (List.getElem?_eq_some_iff.mp ej).1
    have hi := (List.getElem?_eq_some_iff.mp ei).1
    -- the counts in front of j are at most the last of them
    have gen : ∀ (ss : List Sti) (c : Int), RiseC c ss → ∀ x ∈ ss, x.2 ≤ lastC c ss := fun ss => by
      induction ss with
      | nil => exact fun c _ x h => nomatch h
      | cons y r ih =>
        intro c h x hx
        rw [lastC_cons]
        rcases List.mem_cons.mp hx with rfl | q
        · exact h.2.last
        · exact ih y.2 h.2 x q
    refine gen _ _ (rc.take j) x ?_
    have : (g.take j)[i]? = some x := by rw [List.getElem?_take, if_pos hij, ei]
    exact List.mem_of_getElem? this
  cases told with
  | rep x y n hx => cases hx
  | none _ e =>
    refine Or.inr ⟨u, rfl, fun n => ?_⟩
    by_cases c1 : n < u
    · rw [early n c1, decide_eq_true c1]
      rfl
    · rw [decide_eq_false c1]
      by_cases c2 : (n : Int) < lastC u g
      · obtain ⟨i, x, ex, _, _, et⟩ := mid n (by omega) c2
        have := e.hi _ _ (Nat.zero_le _) (atG i x ex)
        have : time < x.1 := this
        rw [et]
        exact decide_eq_false (by omega)
      · have := e.hi _ _ (Nat.zero_le _) atT
        have : time < T := this
        rw [late n (by omega)]
        exact decide_eq_false (by omega)
  | some y k _ e hy =>
    by_cases ck : k < g.length
    · obtain ⟨z, hz⟩ : ∃ z, g[k]? = some z := ⟨_, List.getElem?_eq_getElem ck⟩
      rw [atG k z hz] at hy
      cases hy
      have z0 := hb z (List.mem_of_getElem? hz)
      obtain ⟨N, hN⟩ := Int.eq_ofNat_of_zero_le z0.1
      refine Or.inr ⟨N, by show some z.2 = _; rw [hN], fun n => ?_⟩
      have pz : (u : Int) ≤ z.2 := by
        have h := (rc.take (k + 1)).last
        have : g.take (k + 1) = g.take k ++ [z] := by rw [List.take_add_one, hz]; rfl
        rw [this, lastC_snoc] at h
        exact h
      by_cases c1 : n < u
      · rw [early n c1, decide_eq_true (by omega)]
        rfl
      · by_cases c2 : (n : Int) < lastC u g
        · obtain ⟨i, x, ex, l1, l2, et⟩ := mid n (by omega) c2
          rw [et]
          rcases Nat.lt_trichotomy i k with q | q | q
          · have h1 := prevs i x k z ex hz q
            have h2 : lastC u (g.take k) ≤ z.2 := by
              have : g.take (k + 1) = g.take k ++ [z] := by rw [List.take_add_one, hz]; rfl
              have h := rc.take (k + 1)
              have h3 : RiseC u (g.take k ++ [z]) := this ▸ h
              have gen : ∀ (ss : List Sti) (c : Int), RiseC c (ss ++ [z]) → lastC c ss ≤ z.2 := fun ss => by
                induction ss with
                | nil => exact fun c h => h.1
                | cons y r ih =>
                  intro c h
                  rw [lastC_cons]
                  exact ih y.2 h.2
              exact gen _ _ h3
            have l := e.lo i _ (by omega) (atG i x ex)
            have l : x.1 ≤ time := l
            rw [decide_eq_true (by omega : n < N)]
            exact decide_eq_true l
          · subst q
            rw [hz] at ex
            cases ex
            have l := e.lo i _ (by omega) (atG i z hz)
            have l : z.1 ≤ time := l
            rw [decide_eq_true (by omega : n < N)]
            exact decide_eq_true l
          · have h1 := prevs k z i x hz ex q
            have l := e.hi i _ (by omega) (atG i x ex)
            have l : time < x.1 := l
            rw [decide_eq_false (by omega : ¬ n < N)]
            exact decide_eq_false (by omega)
        · have l := e.hi _ _ (by omega) atT
          have l : time < T := l
          have gen : ∀ (ss : List Sti) (c : Int), RiseC c ss → ∀ x ∈ ss, x.2 ≤ lastC c ss := fun ss => by
            induction ss with
            | nil => exact fun c _ x h => nomatch h
            | cons y r ih =>
              intro c h x hx
              rw [lastC_cons]
              rcases List.mem_cons.mp hx with rfl | q
              · exact h.2.last
              · exact ih y.2 h.2 x q
          have := gen _ _ rc z (List.mem_of_getElem? hz)
          rw [late n (by omega), decide_eq_false (by omega : ¬ n < N)]
          exact decide_eq_false (by omega)
    · have hl := e.le
      rw [List.length_append, List.length_map, List.length_singleton] at hl
      have : k = g.length := by omega
      subst this
      rw [atT] at hy
      cases hy
      have lT := e.lo _ _ (Nat.lt_succ_self _) atT
      have lT : T ≤ time := lT
      refine Or.inl ⟨rfl, fun n => ?_⟩
      by_cases c1 : n < u
      · rw [early n c1]
        rfl
      · by_cases c2 : (n : Int) < lastC u g
        · obtain ⟨i, x, ex, _, _, et⟩ := mid n (by omega) c2
          have hi := (List.getElem?_eq_some_iff.mp ex).1
          have l := e.lo i _ (by omega) (atG i x ex)
          rw [et]
          exact decide_eq_true l
        · rw [late n (by omega)]
          exact decide_eq_true lT
end My

namespace My
open PySem PySem.Spec PyProof.Rows L2
local macro_rules | `(tactic| walk_at "side") => `(tactic| first | (dsimp only; omega) | exact ⟨by omega, by omega⟩ | exact Or.inl ⟨by omega, by omega⟩ | exact Or.inr ⟨by omega, by omega⟩ | decide)
local macro_rules | `(tactic| walk_at "sq") => `(tactic| first | assumption | exact SqL.of (by assumption) | exact SqT.of (by assumption) | (refine L2.Same.seq (by assumption) ?_; walk_at "sq") | (refine L2.Same.seqT (by assumption) ?_; walk_at "sq") | exact Or.inl (by walk_at "sq") | exact Or.inr (by walk_at "sq"))
local macro_rules | `(tactic| walk_at "1") => `(tactic| first
  | refine ⟨_, rfl, iteT ?_⟩
  | refine ⟨_, rfl, iteF ?_⟩
  | refine ⟨_, rfl, ?_⟩
  | refine ⟨_, _, rfl, rfl, (by walk_at "side"), ?_⟩
  | refine ⟨_, _, rfl, rfl, ?_⟩
  | refine ⟨_, _, _, _, true, rfl, .ty _, .base (.int _), kit_ty (a := "int") (by decide +kernel), ?_⟩
  | refine ⟨_, _, _, _, false, rfl, .ty _, .base (.int _), kit_ty (a := "int") (by decide +kernel), ?_⟩
  | refine ⟨_, _, rfl, (by walk_at "sq"), ?_⟩
  | refine ⟨_, _, _, _, rfl, rfl, (by walk_at "sq"), (by first | rfl | assumption), ?_⟩
  | refine Or.inl ⟨_, _, _, _, rfl, rfl, (by walk_at "sq"), (by first | rfl | assumption), ?_⟩
  | refine Or.inr (Or.inl ⟨_, _, _, _, rfl, rfl, (by walk_at "sq"), (by first | rfl | assumption), ?_⟩)
  | refine ⟨_, _, rfl, Or.inl ⟨(by walk_at "sq"), ?_⟩⟩
  | refine ⟨rfl, ?_⟩
  | refine iteT ?_
  | refine iteF ?_
  | refine ⟨_, _, _, _, _, rfl, (by assumption), (by assumption), (by assumption), (by assumption), ?_⟩
  | refine Or.inl ⟨_, rfl, ?_⟩
  | refine Or.inr ⟨_, rfl, ?_⟩
  | refine ⟨_, _, rfl, (by walk_at "side"), ?_⟩
  | refine ⟨_, _, rfl, ?_⟩)
local macro_rules | `(tactic| walk_at "fld") => `(tactic| skip)
local macro_rules | `(tactic| walk_at "s") => `(tactic| repeat walk_at "1")
local macro_rules | `(tactic| walk_at "size") => `(tactic| first | exact Nat.le_of_ble_eq_true rfl | (simp only [List.length_map, List.length_append, List.length_cons, List.length_nil]; omega))
local macro_rules | `(tactic| walk_at "new") => `(tactic| (first | refine ⟨(by walk_at "size"), fun p hp => ?_⟩ | refine fun p hp => ?_); (generalize hq : upd _ p _ = H1); (obtain ⟨s, e⟩ := new_facts hp hq); clear hq)
/-! the row of a tally that goes on -/
open Rw (leO upTo tmR gt cntR Qp later1)
theorem riseC_of {s : Nat → Sti} (R : Rise s) : ∀ (ss : List Sti) (k : Nat) (c : Int), (∀ i x, ss[i]? = some x → x = s (k + i)) → c ≤ (s k).2 → RiseC c ss
  | [], _, _, _, _ => trivial
  | x :: r, k, c, h, hc => by
    have e := h 0 x rfl
    rw [Nat.add_zero] at e
    subst e
    refine ⟨hc, riseC_of R r (k + 1) _ (fun i y hy => ?_) (Int.le_of_lt (R k).2)⟩
    have := h (i + 1) y hy
    rw [this]
    congr 1
    omega
theorem spread_app : ∀ (u : Int) (p q : List Sti), spread u (p ++ q) = spread u p ++ spread (lastC u p) q
  | u, [], q => rfl
  | u, x :: r, q => by
    show List.replicate _ _ ++ spread x.2 (r ++ q) = (List.replicate _ _ ++ spread x.2 r) ++ _
    rw [spread_app x.2 r q, lastC_cons, List.append_assoc]
/-- what stands in front of the i-th step -/
def prevC (u : Int) (s : Nat → Sti) : Nat → Int
  | 0 => u
  | i + 1 => (s i).2
theorem block_some {u : Int} {s : Nat → Sti} (R : Rise s) (un : u < (s 0).2) (u0 : 0 ≤ u) (n : Nat) (h : u ≤ n) : ∃ i, prevC u s i ≤ n ∧ (n : Int) < (s i).2 := by
  have far : ∀ k : Nat, (k : Int) < (s k).2 := fun k => by
    induction k with
    | zero => show (0 : Int) < _; omega
    | succ k ih =>
      have := (R k).2
      omega
  have : ∀ k : Nat, (n : Int) < (s k).2 → ∃ i, prevC u s i ≤ n ∧ (n : Int) < (s i).2 := fun k => by
    induction k with
    | zero => exact fun q => ⟨0, h, q⟩
    | succ k ih =>
      intro q
      by_cases c : (n : Int) < (s k).2
      · exact ih c
      · exact ⟨k + 1, by show (s k).2 ≤ _; omega, q⟩
  exact this n (far n)
/-- by its blocks a row counts what is told -/
theorem link_cnt {r : Nat → Option Int} {u : Int} {s : Nat → Sti} (R : Rise s) (u0 : 0 ≤ u) (un : u < (s 0).2) (h0 : ∀ n : Nat, (n : Int) < u → r n = none) (hl : ∀ i (n : Nat), prevC u s i ≤ n → (n : Int) < (s i).2 → r n = some (s i).1) {time : Int} {v : Option Int} (T : Tell (some u) s time v) : CntOf r time v := by
  rcases T with ⟨lt, rfl⟩ | ⟨k, l1, l2, rfl⟩
  · refine Or.inr ⟨u.toNat, by rw [Int.toNat_of_nonneg u0], fun n => ?_⟩
    by_cases c : (n : Int) < u
    · rw [h0 n c, decide_eq_true (by omega)]
      rfl
    · obtain ⟨i, p1, p2⟩ := block_some R un u0 n (by omega)
      have := R.le (Nat.zero_le i)
      rw [hl i n p1 p2, decide_eq_false (by omega)]
      exact decide_eq_false (by omega)
  · have pos := R.le2 (Nat.zero_le k)
    refine Or.inr ⟨(s k).2.toNat, by rw [Int.toNat_of_nonneg (by omega)], fun n => ?_⟩
    by_cases c : (n : Int) < u
    · rw [h0 n c, decide_eq_true (by omega)]
      rfl
    · obtain ⟨i, p1, p2⟩ := block_some R un u0 n (by omega)
      rw [hl i n p1 p2]
      rcases Nat.lt_or_ge k i with q | q
      · have h1 := R.le (i := k + 1) (j := i) q
        have h2 : (s k).2 ≤ prevC u s i := by
          cases i with
          | zero => omega
          | succ i => exact R.le2 (by omega)
        rw [decide_eq_false (by omega)]
        exact decide_eq_false (by omega)
      · have h1 := R.le q
        have h2 := R.le2 q
        rw [decide_eq_true (by omega)]
        exact decide_eq_true (by omega)
section
variable {u : Nat} {g r : List Sti} {x : Sti} {t m : Int} {s : Nat → Sti} {B : Nat}
theorem turns_row (hB : B ≤ 200) (G : Steps u g (x :: r) t m s) (hb : (s (g.length + (x :: r).length)).2 ≤ B) :
    GoIn u (g ++ [x]) ∧ GoIn x.2 (r ++ [(x.1 + t, x.2 + m)]) ∧ Rw.ShapeG (timesM u (g ++ [x])) (spread x.2 (r ++ [(x.1 + t, x.2 + m)])) t ∧ 0 ≤ t ∧ t < 2 ^ 60 ∧ (timesM u (g ++ [x])).length + (spread x.2 (r ++ [(x.1 + t, x.2 + m)])).length ≤ B ∧
      ∀ time, CntOf (tmR (timesM u (g ++ [x])) (spread x.2 (r ++ [(x.1 + t, x.2 + m)])) t) time (atL (some (u : Int)) (g.map up) (x :: r) t m time) := by
  have S := G.seq
  have R := G.rise
  have un := G.un
  obtain ⟨tp, mp⟩ := turn_pos R S
  have t1 := G.t1
  have sx : s g.length = x := by
    have := S.at_a (i := 0) (Nat.succ_pos _)
    exact (Option.some.inj this).symm
  have send : s (g.length + (x :: r).length) = (x.1 + t, x.2 + m) := by
    rw [S.per _ (Nat.le_refl _), sx]
    rfl
  obtain ⟨W, hW⟩ : ∃ W, W = g ++ [x] := ⟨_, rfl⟩
  obtain ⟨W3, hW3⟩ : ∃ W3, W3 = r ++ [(x.1 + t, x.2 + m)] := ⟨_, rfl⟩
  rw [← hW, ← hW3]
  have lW : W.length = g.length + 1 := by rw [hW, List.length_append, List.length_singleton]
  have lW3 : W3.length = r.length + 1 := by rw [hW3, List.length_append, List.length_singleton]
  have lr : (x :: r).length = r.length + 1 := rfl
  -- all steps to the end of the turn
  have atAll : ∀ i y, (W ++ W3)[i]? = some y → y = s i := fun i y e => by
    have e' : (W ++ W3) = (g ++ (x :: r)) ++ [(x.1 + t, x.2 + m)] := by rw [hW, hW3]; simp
    rw [e'] at e
    have hi := (List.getElem?_eq_some_iff.mp e).1
    rw [List.length_append, List.length_append, List.length_singleton] at hi
    by_cases c : i < (g ++ (x :: r)).length
    · rw [List.getElem?_append_left c] at e
      exact (S.st i y e).symm
    · rw [List.length_append] at c
      rw [List.getElem?_append_right (by rw [List.length_append]; omega)] at e
      have : i = g.length + (x :: r).length := by omega
      subst this
      rw [List.length_append, Nat.sub_self] at e
      cases e
      exact send.symm
  have atI_ : ∀ i, i < g.length + 1 + W3.length → (W ++ W3)[i]? = some (s i) := fun i hi => by
    have l : i < (W ++ W3).length := by rw [List.length_append, lW]; exact hi
    have e := List.getElem?_eq_getElem l
    rw [e, atAll i _ e]
  have rcA : RiseC u (W ++ W3) := riseC_of R _ 0 _ (fun i y e => by rw [Nat.zero_add]; exact atAll i y e) (by omega)
  have rcW : RiseC u W := riseC_of R _ 0 _ (fun i y e => by
    rw [Nat.zero_add]
    refine atAll i y ?_
    rw [List.getElem?_append_left (List.getElem?_eq_some_iff.mp e).1]
    exact e) (by omega)
  have atW3 : ∀ i y, W3[i]? = some y → y = s (g.length + 1 + i) := fun i y e => by
    refine atAll _ y ?_
    rw [List.getElem?_append_right (by omega), lW, Nat.add_sub_cancel_left]
    exact e
  have rcW3 : RiseC x.2 W3 := riseC_of R _ (g.length + 1) _ atW3 (by rw [← sx]; exact Int.le_of_lt (R _).2)
  have lastW : lastC u W = x.2 := by rw [hW, lastC_snoc]
  have lastW3 : lastC x.2 W3 = x.2 + m := by rw [hW3, lastC_snoc]
  have lenW := timesM_len (u := (u : Int)) (by omega) rcW
  have lenW3 := rcW3.len
  rw [lastW] at lenW
  rw [lastW3] at lenW3
  rw [send] at hb
  have hb : x.2 + m ≤ B := hb
  have x0 : (u : Int) < x.2 := by
    rw [← sx]
    have := R.le2 (Nat.zero_le g.length)
    omega
  have bd : ∀ i, i ≤ g.length + (x :: r).length → 0 ≤ (s i).2 ∧ (s i).2 ≤ B := fun i hi => by
    have h1 := R.le2 hi
    rw [send] at h1
    have h1 : (s i).2 ≤ x.2 + m := h1
    have h2 := R.le2 (Nat.zero_le i)
    omega
  have ascA : (W ++ W3).Pairwise (fun p q => p.1 ≤ q.1) := by
    rw [List.pairwise_iff_getElem]
    intro i j hi hj hij
    rw [atAll i _ (List.getElem?_eq_getElem hi), atAll j _ (List.getElem?_eq_getElem hj)]
    exact Int.le_of_lt (R.lt hij).1
  have spreadA : spread u (W ++ W3) = spread u W ++ spread x.2 W3 := by rw [spread_app, lastW]
  have first3 : ∃ q, spreadI x.2 W3 = (s (g.length + 1)).1 :: q := by
    cases hq : W3 with
    | nil => rw [hq] at lW3; cases lW3
    | cons y q =>
      have e := atW3 0 y (by rw [hq]; rfl)
      rw [Nat.add_zero] at e
      have h1 := (R g.length).2
      rw [sx, ← e] at h1
      obtain ⟨k, hk⟩ : ∃ k, (y.2 - x.2).toNat = k + 1 := ⟨(y.2 - x.2).toNat - 1, by omega⟩
      refine ⟨List.replicate k y.1 ++ spreadI y.2 q, ?_⟩
      show List.replicate (y.2 - x.2).toNat y.1 ++ spreadI y.2 q = _
      rw [hk, e]
      rfl
  have last3 : (spreadI x.2 W3).getLast? = some (x.1 + t) := by
    have spI : ∀ (ss : List Sti) (c : Int) (y : Sti), lastC c ss < y.2 → (spreadI c (ss ++ [y])).getLast? = some y.1 := fun ss => by
      induction ss with
      | nil =>
        intro c y h
        have h : c < y.2 := h
        show (List.replicate (y.2 - c).toNat y.1 ++ []).getLast? = _
        rw [List.append_nil, List.getLast?_replicate, if_neg (by omega)]
      | cons z q ih =>
        intro c y h
        rw [lastC_cons] at h
        show (List.replicate (z.2 - c).toNat z.1 ++ spreadI z.2 (q ++ [y])).getLast? = _
        rw [List.getLast?_append, ih z.2 y h]
        rfl
    rw [hW3]
    refine spI r x.2 (x.1 + t, x.2 + m) ?_
    show lastC x.2 r < x.2 + m
    have h2 := R.lt (i := g.length + r.length) (j := g.length + (x :: r).length) (by omega)
    rw [send] at h2
    have h2 : (s (g.length + r.length)).2 < x.2 + m := h2.2
    have h3 : lastC x.2 r = (s (g.length + r.length)).2 := by
      rcases List.eq_nil_or_concat r with e | ⟨r', y, e⟩
      · rw [e, List.length_nil, Nat.add_zero, sx]
        rfl
      · rw [List.concat_eq_append] at e
        have := atW3 r'.length y (by rw [hW3, e, List.append_assoc, List.getElem?_append_right (Nat.le_refl _), Nat.sub_self]; rfl)
        rw [e, lastC_snoc, List.length_append, List.length_singleton, this]
        congr 2
        omega
    rw [h3]
    exact h2
  have shape : Rw.ShapeG (timesM u W) (spread x.2 W3) t := by
    obtain ⟨q, hq⟩ := first3
    refine ⟨u, spreadI u W, spreadI x.2 W3, (s (g.length + 1)).1, x.1 + t, ?_, spread_map _ _, ?_, by rw [hq]; rfl, last3, ?_, by omega, by omega, ?_, ?_, fun _ _ => ⟨trivial, trivial⟩⟩
    · unfold timesM
      rw [spread_map, Int.toNat_natCast]
    · have e : spreadI u W ++ spreadI x.2 W3 = spreadI u (W ++ W3) := by
        have e1 := spreadA
        rw [spread_map, spread_map, spread_map, ← List.map_append] at e1
        exact ((List.map_inj_right fun a b h => Option.some.inj h).mp e1).symm
      rw [e]
      exact spreadI_asc ascA
    · have := (R g.length).1
      rw [sx] at this
      omega
    · unfold timesM at lenW
      rw [spread_map, List.length_append, List.length_replicate, List.length_map, Int.toNat_natCast] at lenW
      omega
    · rw [spread_map, List.length_map] at lenW3
      omega
  refine ⟨⟨by omega, by omega, fun y hy => ?_, by omega⟩, ⟨by omega, by omega, fun y hy => ?_, ?_⟩, shape, by omega, by omega, by omega, fun time => ?_⟩
  · obtain ⟨i, hi, e⟩ := List.getElem_of_mem hy
    have := atAll i y (by rw [List.getElem?_append_left hi, List.getElem?_eq_getElem hi, e])
    have b := bd i (by omega)
    rw [this]
    omega
  · obtain ⟨i, hi, e⟩ := List.getElem_of_mem hy
    have := atW3 i y (by rw [List.getElem?_eq_getElem hi, e])
    have b := bd (g.length + 1 + i) (by omega)
    rw [this]
    omega
  · have := timesM_len (u := x.2) (by omega) rcW3
    rw [lastW3] at this
    omega
  · refine link_cnt R (by omega) un (fun n hn => ?_) (fun i n => ?_) (G.tell time)
    · rw [Rw.tm_lt (by omega)]
      unfold gt
      rw [List.getElem?_append_left (by omega), timesM_none n hn]
      rfl
    · have prevA : ∀ i, i ≤ g.length + (x :: r).length → lastC u ((W ++ W3).take i) = prevC u s i := fun i hi => by
        cases i with
        | zero => rfl
        | succ i =>
          have e := atI_ i (by omega)
          rw [List.take_add_one, e]
          show lastC u ((W ++ W3).take i ++ [s i]) = (s i).2
          exact lastC_snoc _ _ _
      have shapeq := Rw.tm_qp (f := timesM u W) (m := t) shape.ne
      have go : ∀ (n i : Nat), prevC u s i ≤ n → (n : Int) < (s i).2 → tmR (timesM u W) (spread x.2 W3) t n = some (s i).1 := fun n => by
        induction n using Nat.strongRecOn with
        | _ n ih =>
          intro i p1 p2
          by_cases c : i ≤ g.length + (x :: r).length
          · have h2 := R.le2 c
            rw [send] at h2
            have h2 : (s i).2 ≤ x.2 + m := h2
            have e := timesM_at (u := (u : Int)) (by omega) rcA n i (s i) (atI_ i (by omega)) (by rw [prevA i c]; exact p1) p2
            have eq : timesM u (W ++ W3) = timesM u W ++ spread x.2 W3 := by
              unfold timesM
              rw [spreadA, List.append_assoc]
            rw [eq] at e
            rw [Rw.tm_lt (by omega)]
            unfold gt
            rw [e]
            rfl
          · obtain ⟨j, rfl⟩ : ∃ j, i = (j + 1) + (x :: r).length := ⟨i - (x :: r).length - 1, by omega⟩
            have pj : s (j + 1 + (x :: r).length) = mv t m (s (j + 1)) := S.per _ (by omega)
            have pj0 : s (j + (x :: r).length) = mv t m (s j) := S.per _ (by omega)
            have q1 : (s j).2 + m ≤ n := by
              have h : prevC u s (j + 1 + (x :: r).length) = (s (j + (x :: r).length)).2 := by
                rw [show j + 1 + (x :: r).length = (j + (x :: r).length) + 1 by omega]
                rfl
              rw [h, pj0] at p1
              exact p1
            have q2 : (n : Int) < (s (j + 1)).2 + m := by
              rw [pj] at p2
              exact p2
            have h3 := R.le2 (i := g.length) (j := j) (by omega)
            rw [sx] at h3
            obtain ⟨k, rfl⟩ : ∃ k, n = k + (spread x.2 W3).length := ⟨n - (spread x.2 W3).length, by omega⟩
            have e := ih k (by omega) (j + 1) (by show (s j).2 ≤ _; omega) (by omega)
            rw [shapeq k (by omega), e, pj]
            rfl
      exact go n i
end
end My

namespace My
open PySem PySem.Spec PyProof.Rows L2
/-! drawn tallies -/
def stepS (x y : Sti) : Prop := x.1 < y.1 ∧ y.1 ≤ x.1 + 3 ∧ x.2 < y.2 ∧ y.2 ≤ x.2 + 3
theorem chain_get : ∀ {x : Sti} {l : List Sti}, ChainS x l → ∀ i p q, (x :: l)[i]? = some p → (x :: l)[i + 1]? = some q → stepS p q
  | x, [], _, i, p, q, _, h2 => by
    rw [List.getElem?_cons_succ] at h2
    cases h2
  | x, y :: r, h, 0, p, q, h1, h2 => by
    cases h1
    cases h2
    exact h.1
  | x, y :: r, h, i + 1, p, q, h1, h2 => chain_get h.2 i p q h1 h2
theorem chain_app : ∀ {x : Sti} {l l2 : List Sti}, ChainS x l → ChainS (lastS x l) l2 → ChainS x (l ++ l2)
  | x, [], l2, _, h2 => h2
  | x, y :: r, l2, h1, h2 => by
    have e : lastS x (y :: r) = lastS y r := by
      unfold lastS
      rw [List.getLast?_cons]
      rfl
    rw [e] at h2
    exact ⟨h1.1, chain_app h1.2 h2⟩
structure GoodQ (u : Int) (g a : List Sti) (t m : Int) (s : Nat → Sti) : Prop where
  seq : IsSeq g a t m s
  step : ∀ n, stepS (s n) (s (n + 1))
  lo : -3 ≤ (s 0).1
  hi : (s 0).1 ≤ 6
  u0 : 0 ≤ u
  u3 : u ≤ 3
  un : u < (s 0).2
  un3 : (s 0).2 ≤ u + 3
theorem GoodQ.rise {u : Int} {g a : List Sti} {t m : Int} {s : Nat → Sti} (h : GoodQ u g a t m s) : Rise s := fun n => ⟨(h.step n).1, (h.step n).2.2.1⟩
theorem drawn_good {u t0 dt dm : Int} {ss as : List Sti} {x y : Sti} (hu : 0 ≤ u ∧ u ≤ 3) (ht : -4 ≤ t0 ∧ t0 ≤ 3) (hc : ChainS (t0, u) ss) (ha : ChainS (lastS (t0, u) ss) as) (hx : as.head? = some x) (hy : as.getLast? = some y) (hdt : 1 ≤ dt ∧ dt ≤ 3) (hdm : 1 ≤ dm ∧ dm ≤ 3) :
    GoodQ u ss as (y.1 - x.1 + dt) (y.2 - x.2 + dm) (sq ss as (y.1 - x.1 + dt) (y.2 - x.2 + dm)) := by
  have l0 : 0 < as.length := by
    cases as with
    | nil => cases hx
    | cons _ _ => exact Nat.succ_pos _
  have S := sq_is (g := ss) (a := as) (t := y.1 - x.1 + dt) (m := y.2 - x.2 + dm) l0
  generalize sq ss as (y.1 - x.1 + dt) (y.2 - x.2 + dm) = s at S
  have ch := chain_app hc ha
  have first : ∀ n, n < ss.length + as.length → ((t0, u) :: (ss ++ as))[n + 1]? = some (s n) := fun n h => by
    rw [List.getElem?_cons_succ]
    exact S.of h
  have s0 : stepS (t0, u) (s 0) := chain_get ch 0 _ _ rfl (first 0 (by omega))
  have ex : s ss.length = x := by
    have := S.at_a (i := 0) l0
    rw [List.head?_eq_getElem?] at hx
    rw [hx, Nat.add_zero] at this
    exact (Option.some.inj this).symm
  have ey : s (ss.length + (as.length - 1)) = y := by
    have := S.at_a (i := as.length - 1) (by omega)
    rw [List.getLast?_eq_getElem?] at hy
    rw [hy] at this
    exact (Option.some.inj this).symm
  have step : ∀ n, stepS (s n) (s (n + 1)) := by
    intro n
    induction n using Nat.strongRecOn with
    | _ n ih =>
      by_cases h : n + 1 < ss.length + as.length
      · exact chain_get ch (n + 1) _ _ (first n (by omega)) (first (n + 1) h)
      · by_cases h2 : n + 1 = ss.length + as.length
        · have e1 : s n = y := by rw [← ey, show ss.length + (as.length - 1) = n by omega]
          have e2 : s (n + 1) = mv (y.1 - x.1 + dt) (y.2 - x.2 + dm) x := by rw [h2, S.per _ (Nat.le_refl _), ex]
          rw [e1, e2]
          refine ⟨?_, ?_, ?_, ?_⟩
          · show y.1 < x.1 + (y.1 - x.1 + dt)
            omega
          · show x.1 + (y.1 - x.1 + dt) ≤ y.1 + 3
            omega
          · show y.2 < x.2 + (y.2 - x.2 + dm)
            omega
          · show x.2 + (y.2 - x.2 + dm) ≤ y.2 + 3
            omega
        · obtain ⟨k, rfl⟩ : ∃ k, n = k + as.length := ⟨n - as.length, by omega⟩
          have := ih k (by omega)
          rw [show k + as.length + 1 = (k + 1) + as.length by omega, S.per k (by omega), S.per (k + 1) (by omega)]
          obtain ⟨h1, h2, h3, h4⟩ := this
          exact ⟨by show (s k).1 + _ < (s (k + 1)).1 + _; omega, by show (s (k + 1)).1 + _ ≤ (s k).1 + _ + 3; omega, by show (s k).2 + _ < (s (k + 1)).2 + _; omega, by show (s (k + 1)).2 + _ ≤ (s k).2 + _ + 3; omega⟩
  obtain ⟨h1, h2, h3, h4⟩ := s0
  have h1 : t0 < (s 0).1 := h1
  have h2 : (s 0).1 ≤ t0 + 3 := h2
  exact ⟨S, step, by omega, by omega, hu.1, hu.2, h3, h4⟩
theorem GoodQ.far {u : Int} {g a : List Sti} {t m : Int} {s : Nat → Sti} (G : GoodQ u g a t m s) (n : Nat) : ∀ k : Nat, (s (n + k)).1 ≤ (s n).1 + 3 * k ∧ (s (n + k)).2 ≤ (s n).2 + 3 * k ∧ (s n).1 + k ≤ (s (n + k)).1
  | 0 => ⟨by rw [Nat.add_zero]; omega, by rw [Nat.add_zero]; omega, by rw [Nat.add_zero]; omega⟩
  | k + 1 => by
    obtain ⟨h1, h2, h3⟩ := GoodQ.far G n k
    obtain ⟨a1, a2, a3, a4⟩ := G.step (n + k)
    rw [show n + (k + 1) = n + k + 1 by omega]
    exact ⟨by omega, by omega, by omega⟩
theorem chain_bound : ∀ {x : Sti} {l : List Sti}, ChainS x l → ∀ y ∈ l, x.1 < y.1 ∧ y.1 ≤ x.1 + 3 * l.length ∧ x.2 < y.2 ∧ y.2 ≤ x.2 + 3 * l.length
  | x, [], _, y, h => nomatch h
  | x, z :: r, hc, y, h => by
    obtain ⟨⟨h1, h2, h3, h4⟩, hr⟩ := hc
    rw [List.length_cons]
    rcases List.mem_cons.mp h with rfl | h
    · exact ⟨h1, by omega, h3, by omega⟩
    · obtain ⟨a1, a2, a3, a4⟩ := chain_bound hr y h
      exact ⟨by omega, by omega, by omega, by omega⟩
theorem chain_asc : ∀ {x : Sti} {l : List Sti}, ChainS x l → l.Pairwise fun p q => p.1 < q.1
  | x, [], _ => .nil
  | x, z :: r, hc => .cons (fun y hy => (chain_bound hc.2 y hy).1) (chain_asc hc.2)
theorem last_le {x : Sti} {l : List Sti} (hc : ChainS x l) : ∀ y ∈ l, y.1 ≤ (lastS x l).1 := by
  intro y hy
  rcases List.eq_nil_or_concat l with e | ⟨l', z, e⟩
  · rw [e] at hy
    cases hy
  · rw [List.concat_eq_append] at e
    subst e
    rw [last_snoc]
    have hp := chain_asc hc
    rw [List.pairwise_append] at hp
    rcases List.mem_append.mp hy with h | h
    · exact Int.le_of_lt (hp.2.2 y h z (List.mem_singleton.mpr rfl))
    · rw [List.mem_singleton.mp h]
      exact Int.le_refl _
theorem chain_asc2 : ∀ {x : Sti} {l : List Sti}, ChainS x l → l.Pairwise fun p q => p.1 < q.1 ∧ p.2 < q.2
  | x, [], _ => .nil
  | x, z :: r, hc => .cons (fun y hy => ⟨(chain_bound hc.2 y hy).1, (chain_bound hc.2 y hy).2.2.1⟩) (chain_asc2 hc.2)
/-- what is made of a drawn tally -/
theorem drawn_can {u : Option Int} {f : List Stp} {a : List Sti} {t m : Int} (D : DrawnR u f a t m) : TalIn u f a t m ∧ f.length ≤ 4 ∧ a.length ≤ 3 ∧ 0 ≤ t ∧ t < 1000 ∧ 0 ≤ m ∧ m < 1000 ∧ (a ≠ [] → 0 < t) ∧
    ∀ f' a' t' m', MadeT f a t m f' a' t' m' → CanT 60 u f' a' t' m' ∧ ∀ time, atL u f' a' t' m' time = atL u f a t m time := by
  cases D with
  | none =>
    refine ⟨fun d1 d2 q1 i1 q2 i2 => word_nil (u := .none) (f := []) rfl q1 i1 q2 i2 rfl rfl rfl, by decide, by decide, by decide, by decide, by decide, by decide, fun z => absurd rfl z, fun f' a' t' m' M => ?_⟩
    obtain ⟨rfl, rfl, rfl, rfl⟩ := made_nil M
    exact ⟨.none, fun _ => rfl⟩
  | ends u t0 d ss hu ht hc hl hd =>
    obtain ⟨un, rfl⟩ : ∃ n : Nat, u = n := ⟨u.toNat, by omega⟩
    have bd := fun y hy => chain_bound hc y hy
    have hE : ChainE t0 un (ss.map up ++ [((lastS (t0, (un : Int)) ss).1 + d, none)]) := by
      refine chainE_of ss t0 un _ (chain_asc2 hc) (fun x hx => ?_) ?_
      · have h1 := bd x hx
        have h2 := last_le hc x hx
        exact ⟨h1.1, h1.2.2.1, by omega⟩
      · unfold lastS
        cases e : ss.getLast? with
        | none => show t0 < t0 + d; omega
        | some y =>
          have h1 := (bd y (List.mem_of_getLast? e)).1
          have h1 : t0 < y.1 := h1
          show t0 < y.1 + d
          omega
    refine ⟨ends_in (by omega) hE, by rw [List.length_append, List.length_map, List.length_singleton]; omega, by decide, by decide, by decide, by decide, by decide, fun z => absurd rfl z, fun f' a' t' m' M => ?_⟩
    obtain ⟨can, same, _⟩ := can_ends (B := 60) hE (by omega) (fun x hx => by
      have h1 := (bd x hx).2.2
      have h2 : (un : Int) < x.2 := h1.1
      have h3 : x.2 ≤ (un : Int) + 3 * ss.length := h1.2
      omega) (by omega) M
    exact ⟨can, same⟩
  | turns u t0 dt dm ss as x y hu ht hc hl ha hla hx hy hdt hdm =>
    obtain ⟨un, rfl⟩ : ∃ n : Nat, u = n := ⟨u.toNat, by omega⟩
    have G := drawn_good hu ht hc ha hx hy hdt hdm
    obtain ⟨tp, mp⟩ := turn_pos G.rise G.seq
    have far := G.far ss.length a.length
    have nx := G.seq.per ss.length (Nat.le_refl _)
    generalize sq ss a (y.1 - x.1 + dt) (y.2 - x.2 + dm) = s at G far nx
    generalize y.1 - x.1 + dt = t at *
    generalize y.2 - x.2 + dm = m at *
    have tb : t ≤ 9 ∧ m ≤ 9 := by
      rw [nx] at far
      have h1 : (s ss.length).1 + t ≤ (s ss.length).1 + 3 * a.length := far.1
      have h2 : (s ss.length).2 + m ≤ (s ss.length).2 + 3 * a.length := far.2.1
      omega
    have St : Steps un ss a t m s := ⟨G.seq, G.rise, G.u0, G.un, by omega, by omega, by omega, by omega⟩
    have f0 := G.far 0 (ss.length + a.length)
    rw [Nat.zero_add] at f0
    have un3 := G.un3
    refine ⟨fun d1 d2 q1 i1 q2 i2 => right_word St G.seq q1 i1 q2 i2, by rw [List.length_map]; omega, hla, by omega, by omega, by omega, by omega, fun _ => tp, fun f' a' t' m' M => ?_⟩
    obtain ⟨can, same, _⟩ := can_turns (B := 60) St (by omega) M
    exact ⟨can, same⟩
end My

namespace My
open PySem PySem.Spec PyProof.Rows L2
local macro_rules | `(tactic| walk_at "side") => `(tactic| first | (dsimp only; omega) | exact ⟨by omega, by omega⟩ | exact Or.inl ⟨by omega, by omega⟩ | exact Or.inr ⟨by omega, by omega⟩ | decide)
local macro_rules | `(tactic| walk_at "sq") => `(tactic| first | assumption | exact SqL.of (by assumption) | exact SqT.of (by assumption) | (refine L2.Same.seq (by assumption) ?_; walk_at "sq") | (refine L2.Same.seqT (by assumption) ?_; walk_at "sq") | exact Or.inl (by walk_at "sq") | exact Or.inr (by walk_at "sq"))
local macro_rules | `(tactic| walk_at "1") => `(tactic| first
  | refine ⟨_, rfl, iteT ?_⟩
  | refine ⟨_, rfl, iteF ?_⟩
  | refine ⟨_, rfl, ?_⟩
  | refine ⟨_, _, rfl, rfl, (by walk_at "side"), ?_⟩
  | refine ⟨_, _, rfl, rfl, ?_⟩
  | refine ⟨_, _, _, _, true, rfl, .ty _, .base (.int _), kit_ty (a := "int") (by decide +kernel), ?_⟩
  | refine ⟨_, _, _, _, false, rfl, .ty _, .base (.int _), kit_ty (a := "int") (by decide +kernel), ?_⟩
  | refine ⟨_, _, rfl, (by walk_at "sq"), ?_⟩
  | refine ⟨_, _, _, _, rfl, rfl, (by walk_at "sq"), (by first | rfl | assumption), ?_⟩
  | refine Or.inl ⟨_, _, _, _, rfl, rfl, (by walk_at "sq"), (by first | rfl | assumption), ?_⟩
  | refine Or.inr (Or.inl ⟨_, _, _, _, rfl, rfl, (by walk_at "sq"), (by first | rfl | assumption), ?_⟩)
  | refine ⟨_, _, rfl, Or.inl ⟨(by walk_at "sq"), ?_⟩⟩
  | refine ⟨rfl, ?_⟩
  | refine iteT ?_
  | refine iteF ?_
  | refine ⟨_, _, _, _, _, rfl, (by assumption), (by assumption), (by assumption), (by assumption), ?_⟩
  | refine Or.inl ⟨_, rfl, ?_⟩
  | refine Or.inr ⟨_, rfl, ?_⟩
  | refine ⟨_, _, rfl, (by walk_at "side"), ?_⟩
  | refine ⟨_, _, rfl, ?_⟩)
local macro_rules | `(tactic| walk_at "fld") => `(tactic| skip)
local macro_rules | `(tactic| walk_at "s") => `(tactic| repeat walk_at "1")
local macro_rules | `(tactic| walk_at "size") => `(tactic| first | exact Nat.le_of_ble_eq_true rfl | (simp only [List.length_map, List.length_append, List.length_cons, List.length_nil]; omega))
local macro_rules | `(tactic| walk_at "new") => `(tactic| (first | refine ⟨(by walk_at "size"), fun p hp => ?_⟩ | refine fun p hp => ?_); (generalize hq : upd _ p _ = H1); (obtain ⟨s, e⟩ := new_facts hp hq); clear hq)
/-! tally and goings, by what is counted -/
open Rw (leO upTo tmR gt cntR Qp ov)
/-- a made row: none at all, or one that goes -/
def RowK (B : Nat) (f a : List (Option Int)) (m : Int) : Prop := (f = [] ∧ a = [none] ∧ m = 0) ∨ RowM B f a m
theorem RowK.parts {B : Nat} {f a : List (Option Int)} {m : Int} (h : RowK B f a m) (hB : B ≤ 400) : Rw.Parts f a m := by
  rcases h with ⟨rfl, rfl, rfl⟩ | h
  · exact ⟨by simp, by decide, by show 1 < 500; decide, by decide, by decide⟩
  · exact h.parts hB
theorem RowK.uniq {B B2 : Nat} {f a f2 a2 : List (Option Int)} {m m2 : Int} (h : RowK B f a m) (h2 : RowK B2 f2 a2 m2) (e : ∀ n, tmR f a m n = tmR f2 a2 m2 n) : f = f2 ∧ a = a2 ∧ m = m2 := by
  rcases h with ⟨rfl, rfl, rfl⟩ | h
  · rcases h2 with ⟨rfl, rfl, rfl⟩ | h2
    · exact ⟨rfl, rfl, rfl⟩
    · obtain ⟨x, hx⟩ := h2.live _ (Nat.le_refl _)
      rw [← e, empty_tm] at hx
      cases hx
  · rcases h2 with ⟨rfl, rfl, rfl⟩ | h2
    · obtain ⟨x, hx⟩ := h.live _ (Nat.le_refl _)
      rw [e, empty_tm] at hx
      cases hx
    · have ef : tmR f a m = tmR f2 a2 m2 := funext e
      have c2 := h2.can
      rw [← ef] at c2
      obtain ⟨e1, e2, e3⟩ := h.can.uniq c2 fun N => by
        obtain ⟨x, hx⟩ := h.live (N + f.length) (by omega)
        exact ⟨N + f.length, by omega, by rw [hx]; simp⟩
      refine ⟨?_, ?_, e3⟩
      · refine List.ext_getElem? fun i => ?_
        by_cases c : i < f.length
        · rw [h.gf c, h2.gf (by omega), e]
        · rw [List.getElem?_eq_none (by omega), List.getElem?_eq_none (by omega)]
      · refine List.ext_getElem? fun i => ?_
        by_cases c : i < a.length
        · rw [h.ga c, h2.ga (by omega), e, e2]
        · rw [List.getElem?_eq_none (by omega), List.getElem?_eq_none (by omega)]
section
variable {R C : Addr} {H : Hp} {Q : VK} {E : XK}
theorem rd_tally {p : Addr} {f a : List (Option Int)} {m : Int} {B : Nat} (hB : B ≤ 100) (hR : Rw.RowAt R H p f a m) (h : RowK B f a m)
    (k : ∀ H' q u f' a' t' m', Same H H' → H q = none → CanT (3 * B) u f' a' t' m' → (∀ t, CntOf (tmR f a m) t (atL u f' a' t' m' t)) → ((m = 0 ∧ a' = []) ∨ (0 < m ∧ a' ≠ [] ∧ lowN m' t' = lowN a.length m ∧ lowD m' t' = lowD a.length m)) → TalAt C H' q u f' a' t' m' → Q (.ref q) H') : spTally R C [.ref p] H Q E := by
  refine ⟨p, f, a, m, rfl, hR, h.parts (by omega), fun hg x hx => ?_, fun hg H' q s n T => ?_, fun lo hlo hm => ?_, fun lo hlo hm => ?_⟩
  · rcases h with ⟨rfl, rfl, rfl⟩ | h
    · exact absurd rfl hg
    · exact h.somes x hx
  · rcases h with ⟨rfl, rfl, rfl⟩ | h
    · exact k H' q _ _ _ _ _ s n .none empty_cnt (Or.inl ⟨rfl, rfl⟩) T
    · obtain ⟨lo, g0, _⟩ := h.first
      rw [g0] at hg
      cases hg
  · rcases h with ⟨rfl, rfl, rfl⟩ | h
    · cases hlo
    · subst hm
      obtain ⟨g, b, e, hc, l1, l2, hcnt⟩ := row_ends h hlo
      have hl := h.len
      have hn : nonesN f ≤ f.length := List.length_filter_le _ _
      have hb : ∀ x ∈ g, 0 ≤ x.2 ∧ x.2 ≤ ((3 * B : Nat) : Int) := fun x hx => by
        have := l2 x hx
        omega
      rw [e]
      refine ⟨ends_in (by omega) hc, fun H' q f' a' t' m' s n M T => ?_⟩
      obtain ⟨can, same, ne⟩ := can_ends (B := 3 * B) hc (by omega) hb (by omega) M
      exact k H' q _ _ _ _ _ s n can (fun t => by rw [same t]; exact hcnt t) (Or.inl ⟨rfl, ne⟩) T
  · rcases h with ⟨rfl, rfl, rfl⟩ | h
    · cases hlo
    · have m0 := h.m0
      have mp : 0 < m := by omega
      have hl := h.len
      obtain ⟨g, s, e, S, F, l1, l2, hbd⟩ := row_steps h mp hlo
      have hne : ∀ t, cntR f a m t ≠ none := fun t q => by
        obtain ⟨N, e1, _⟩ := Rw.cnt_spec (time := t) h.T0 h.m0 (fun i j q => h.all q) hlo (Or.inr mp)
        rw [q] at e1
        cases e1
      have m1 := h.m1
      rw [e]
      have G : Steps ((nonesN f : Nat) : Int) g (stepsA f a m lo) m a.length s := ⟨S, F.rise, by omega, F.un, by omega, by omega, m1, by omega⟩
      refine ⟨hne, fun d1 d2 q1 i1 q2 i2 => right_word G S q1 i1 q2 i2, fun H' q f' a' t' m' s' n M T => ?_⟩
      obtain ⟨can, same, r1, r2, ne⟩ := can_turns (B := 3 * B) G (by omega) M
      exact k H' q _ _ _ _ _ s' n can (fun t => by rw [same t]; exact F.tell (G.tell t)) (Or.inr ⟨mp, ne, r1, r2⟩) T
theorem rd_goings {q : Addr} {u : Option Int} {f : List Stp} {a : List Sti} {t m : Int} {B : Nat} (hB : B ≤ 200) (hT : TalAt C H q u f a t m) (h : CanT B u f a t m)
    (k : ∀ H' p f' a' m', Same H H' → H p = none → RowK (B + 1) f' a' m' → (∀ τ, CntOf (tmR f' a' m') τ (atL u f a t m τ)) → Rw.RowAt R H' p f' a' m' → Q (.ref p) H') : spGoings C R [.ref q] H Q E := by
  have pt := h.parts
  have lf := pt.lf
  have la := pt.la
  cases h with
  | none => exact ⟨q, none, [], [], 0, 0, rfl, hT, by decide, by decide, Or.inl ⟨rfl, fun H' p s n r => k H' p _ _ _ s n (Or.inl ⟨rfl, rfl, rfl⟩) empty_cnt r⟩⟩
  | ends u b T g hc hu hb hl =>
    obtain ⟨rc, gi, sh, ll⟩ := ends_shape hB hc hu hb
    have len := timesM_len (u := (u : Int)) (by omega) rc
    refine ⟨q, _, _, _, _, _, rfl, hT, by rw [List.length_append, List.length_map, List.length_singleton]; omega, by decide, Or.inr (Or.inl ⟨u, g, T, rfl, rfl, rfl, gi, sh.ok, fun H' p f' a' m' s n M r => ?_⟩)⟩
    obtain ⟨rm, tm⟩ := rowM_of (B := B + 1) sh M (by rw [List.length_singleton]; omega)
    exact k H' p _ _ _ s n (Or.inr rm) (fun τ => by rw [show tmR f' a' m' = _ from funext tm]; exact ends_cnt hB hc hu hb τ) r
  | turns u g a t m s A G hb =>
    cases a with
    | nil => exact absurd G.seq.pos (by decide)
    | cons x r =>
      obtain ⟨g1, g2, sh, t0, t1, lens, hcnt⟩ := turns_row hB G hb
      have hlg := G.lg
      have hla := G.la
      refine ⟨q, _, _, _, _, _, rfl, hT, by rw [List.length_map]; exact hlg, hla, Or.inr (Or.inr ⟨u, g, x, r, rfl, rfl, rfl, g1, g2, by omega, t0, t1, sh.ok, fun H' p f' a' m' s' n M r' => ?_⟩)⟩
      obtain ⟨rm, tm⟩ := rowM_of (B := B + 1) sh M (by omega)
      exact k H' p _ _ _ s' n (Or.inr rm) (fun τ => by rw [show tmR f' a' m' = _ from funext tm]; exact hcnt τ) r'
end
end My

namespace My
open PySem PySem.Spec PyProof.Rows L2
local macro_rules | `(tactic| walk_at "side") => `(tactic| first | (dsimp only; omega) | exact ⟨by omega, by omega⟩ | exact Or.inl ⟨by omega, by omega⟩ | exact Or.inr ⟨by omega, by omega⟩ | decide)
local macro_rules | `(tactic| walk_at "sq") => `(tactic| first | assumption | exact SqL.of (by assumption) | exact SqT.of (by assumption) | (refine L2.Same.seq (by assumption) ?_; walk_at "sq") | (refine L2.Same.seqT (by assumption) ?_; walk_at "sq") | exact Or.inl (by walk_at "sq") | exact Or.inr (by walk_at "sq"))
local macro_rules | `(tactic| walk_at "1") => `(tactic| first
  | refine ⟨_, rfl, iteT ?_⟩
  | refine ⟨_, rfl, iteF ?_⟩
  | refine ⟨_, rfl, ?_⟩
  | refine ⟨_, _, rfl, rfl, (by walk_at "side"), ?_⟩
  | refine ⟨_, _, rfl, rfl, ?_⟩
  | refine ⟨_, _, _, _, true, rfl, .ty _, .base (.int _), kit_ty (a := "int") (by decide +kernel), ?_⟩
  | refine ⟨_, _, _, _, false, rfl, .ty _, .base (.int _), kit_ty (a := "int") (by decide +kernel), ?_⟩
  | refine ⟨_, _, rfl, (by walk_at "sq"), ?_⟩
  | refine ⟨_, _, _, _, rfl, rfl, (by walk_at "sq"), (by first | rfl | assumption), ?_⟩
  | refine Or.inl ⟨_, _, _, _, rfl, rfl, (by walk_at "sq"), (by first | rfl | assumption), ?_⟩
  | refine Or.inr (Or.inl ⟨_, _, _, _, rfl, rfl, (by walk_at "sq"), (by first | rfl | assumption), ?_⟩)
  | refine ⟨_, _, rfl, Or.inl ⟨(by walk_at "sq"), ?_⟩⟩
  | refine ⟨rfl, ?_⟩
  | refine iteT ?_
  | refine iteF ?_
  | refine ⟨_, _, _, _, _, rfl, (by assumption), (by assumption), (by assumption), (by assumption), ?_⟩
  | refine Or.inl ⟨_, rfl, ?_⟩
  | refine Or.inr ⟨_, rfl, ?_⟩
  | refine ⟨_, _, rfl, (by walk_at "side"), ?_⟩
  | refine ⟨_, _, rfl, ?_⟩)
local macro_rules | `(tactic| walk_at "fld") => `(tactic| skip)
local macro_rules | `(tactic| walk_at "s") => `(tactic| repeat walk_at "1")
local macro_rules | `(tactic| walk_at "size") => `(tactic| first | exact Nat.le_of_ble_eq_true rfl | (simp only [List.length_map, List.length_append, List.length_cons, List.length_nil]; omega))
local macro_rules | `(tactic| walk_at "new") => `(tactic| (first | refine ⟨(by walk_at "size"), fun p hp => ?_⟩ | refine fun p hp => ?_); (generalize hq : upd _ p _ = H1); (obtain ⟨s, e⟩ := new_facts hp hq); clear hq)
/-! Tally and by called with keywords -/
section
variable {K : PySem.W.Frag}
theorem kbn_init {f1 : Addr} {fd : FuncData} (F : Fun K "__init__" "Tally.__init__" s_Tally_init f1 fd) :
    KBn K fd ["self", "under", "first", "again", "turn", "more"] 1 ["more", "turn", "again", "first", "under"] (fun us ws => us ++ ws.reverse) (fun vs zs => vs ++ zs.reverse) :=
  kbn_back F fun _ _ _ _ _ _ us ws l1 l2 => match us, l1, ws, l2 with | [_], _, [_, _, _, _, _], _ => rfl
theorem kbn_by {f1 : Addr} {fd : FuncData} (F : Fun K "by" "Tally.by" s_Tally_by f1 fd) :
    KBn K fd ["self", "time"] 1 ["time"] (fun us ws => us ++ ws) (fun vs zs => vs ++ zs) :=
  kbn_fwd F fun _ _ _ _ _ _ us ws l1 l2 => match us, l1, ws, l2 with | [_], _, [_], _ => rfl
end
/-- what the law needs of Tally by keywords -/
structure TalKw (P : Program) (w : World) (K : PySem.W.Frag) (mg : Str → Option Value) (base : Heap) (C D : Addr) : Prop where
  ex : ∃ f fd, FnOk P w K mg base (L2.CX P w) 5 f fd ["self", "under", "first", "again", "turn", "more"] (spInitT C D) ∧ mg "Tally" = some (.ref C) ∧ Mk K C f ∧
    KBn K fd ["self", "under", "first", "again", "turn", "more"] 1 ["more", "turn", "again", "first", "under"] (fun us ws => us ++ ws.reverse) (fun vs zs => vs ++ zs.reverse)
end My

namespace My
open PySem PySem.Spec PyProof.Rows L2
local macro_rules | `(tactic| walk_at "side") => `(tactic| first | (dsimp only; omega) | exact ⟨by omega, by omega⟩ | exact Or.inl ⟨by omega, by omega⟩ | exact Or.inr ⟨by omega, by omega⟩ | decide)
local macro_rules | `(tactic| walk_at "sq") => `(tactic| first | assumption | exact SqL.of (by assumption) | exact SqT.of (by assumption) | (refine L2.Same.seq (by assumption) ?_; walk_at "sq") | (refine L2.Same.seqT (by assumption) ?_; walk_at "sq") | exact Or.inl (by walk_at "sq") | exact Or.inr (by walk_at "sq"))
local macro_rules | `(tactic| walk_at "1") => `(tactic| first
  | refine ⟨_, rfl, iteT ?_⟩
  | refine ⟨_, rfl, iteF ?_⟩
  | refine ⟨_, rfl, ?_⟩
  | refine ⟨_, _, rfl, rfl, (by walk_at "side"), ?_⟩
  | refine ⟨_, _, rfl, rfl, ?_⟩
  | refine ⟨_, _, _, _, true, rfl, .ty _, .base (.int _), kit_ty (a := "int") (by decide +kernel), ?_⟩
  | refine ⟨_, _, _, _, false, rfl, .ty _, .base (.int _), kit_ty (a := "int") (by decide +kernel), ?_⟩
  | refine ⟨_, _, rfl, (by walk_at "sq"), ?_⟩
  | refine ⟨_, _, _, _, rfl, rfl, (by walk_at "sq"), (by first | rfl | assumption), ?_⟩
  | refine Or.inl ⟨_, _, _, _, rfl, rfl, (by walk_at "sq"), (by first | rfl | assumption), ?_⟩
  | refine Or.inr (Or.inl ⟨_, _, _, _, rfl, rfl, (by walk_at "sq"), (by first | rfl | assumption), ?_⟩)
  | refine ⟨_, _, rfl, Or.inl ⟨(by walk_at "sq"), ?_⟩⟩
  | refine ⟨rfl, ?_⟩
  | refine iteT ?_
  | refine iteF ?_
  | refine ⟨_, _, _, _, _, rfl, (by assumption), (by assumption), (by assumption), (by assumption), ?_⟩
  | refine Or.inl ⟨_, rfl, ?_⟩
  | refine Or.inr ⟨_, rfl, ?_⟩
  | refine ⟨_, _, rfl, (by walk_at "side"), ?_⟩
  | refine ⟨_, _, rfl, ?_⟩)
local macro_rules | `(tactic| walk_at "fld") => `(tactic| skip)
local macro_rules | `(tactic| walk_at "s") => `(tactic| repeat walk_at "1")
local macro_rules | `(tactic| walk_at "size") => `(tactic| first | exact Nat.le_of_ble_eq_true rfl | (simp only [List.length_map, List.length_append, List.length_cons, List.length_nil]; omega))
local macro_rules | `(tactic| walk_at "new") => `(tactic| (first | refine ⟨(by walk_at "size"), fun p hp => ?_⟩ | refine fun p hp => ?_); (generalize hq : upd _ p _ = H1); (obtain ⟨s, e⟩ := new_facts hp hq); clear hq)
/-! == and != of tallies -/
structure EqT (P : Program) (w : World) (K : PySem.W.Frag) (mg : Str → Option Value) (base : Heap) (C : Addr) : Prop where
  ex : ∃ f fd, FnOk P w K mg base CX0 1 f fd ["self", "other"] (spEqT K C) ∧ PySem.W.findIn K (.ref C) "__eq__" = some (some (.ref f)) ∧ PySem.W.isFn K (.ref f) = true ∧ Binds K fd ["self", "other"] []
theorem EqT.own {X : Cx} {C : Addr} (O : EqT X.prog X.w X.K X.mg X.base C) (Z : TalEq X.K X.mg C) : EqOwn X CX0 1 C (spEqT X.K C) E0 := by
  obtain ⟨f, fd, F, h1, h2, h3⟩ := O.ex
  exact ⟨⟨f, fd, _, F, h1, h2, h3⟩, Z.ne, Z.mro, pass0⟩
theorem op_eqT {X : Cx} {C : Addr} (O : EqT X.prog X.w X.K X.mg X.base C) (Z : TalEq X.K X.mg C) (hr : Room 1 X.A) : OpR X (compareOp .Eq) (rEqOwn X.K C (spEqT X.K C) E0) := op_eqOwn (O.own Z) hr
theorem op_neT {X : Cx} {C : Addr} (O : EqT X.prog X.w X.K X.mg X.base C) (Z : TalEq X.K X.mg C) (hr : Room 2 X.A) : OpR X (compareOp .NotEq) (rNeOwn X.K C (spEqT X.K C) E0) := op_neOwn (O.own Z) hr
/-- the tally's five parts alike -/
def talE (u : Option Int) (f : List Stp) (a : List Sti) (t m : Int) (u2 : Option Int) (f2 : List Stp) (a2 : List Sti) (t2 m2 : Int) : Bool := decide (u = u2 ∧ f = f2 ∧ a = a2 ∧ t = t2 ∧ m = m2)
section
variable {K : PySem.W.Frag} {mg : Str → Option Value} {C p q : Addr} {H : Hp} {Q : VK} {u u2 : Option Int} {f f2 : List Stp} {a a2 : List Sti} {t m t2 m2 : Int}
theorem rd_eqTal (Z : TalEq K mg C) (h : TalAt C H p u f a t m) (g : TalAt C H q u2 f2 a2 t2 m2) (l1 : f.length ≤ 2000) (l2 : a.length ≤ 2000) (l3 : f2.length ≤ 2000) (l4 : a2.length ≤ 2000)
    (k : Q (.bl (talE u f a t m u2 f2 a2 t2 m2)) H) : rEqOwn K C (spEqT K C) E0 (.ref p) (.ref q) H Q := by
  obtain ⟨dx, _, _, _, _, e, _⟩ := id h
  obtain ⟨dx2, _, _, _, _, e2, _⟩ := id g
  exact ⟨p, dx, _, _, rfl, e, Z.ins _ _ _ _ e2, Z.nself, p, u, f, a, t, m, _, rfl, h, l1, l2, Or.inr ⟨q, u2, f2, a2, t2, m2, rfl, g, l3, l4, k⟩⟩
theorem rd_neTal (Z : TalEq K mg C) (h : TalAt C H p u f a t m) (g : TalAt C H q u2 f2 a2 t2 m2) (l1 : f.length ≤ 2000) (l2 : a.length ≤ 2000) (l3 : f2.length ≤ 2000) (l4 : a2.length ≤ 2000)
    (k : Q (.bl (!talE u f a t m u2 f2 a2 t2 m2)) H) : rNeOwn K C (spEqT K C) E0 (.ref p) (.ref q) H Q := by
  obtain ⟨dx, _, _, _, _, e, _⟩ := id h
  obtain ⟨dx2, _, _, _, _, e2, _⟩ := id g
  exact ⟨p, dx, _, _, rfl, e, Z.ins _ _ _ _ e2, Z.nself, p, u, f, a, t, m, _, rfl, h, l1, l2, Or.inr ⟨q, u2, f2, a2, t2, m2, rfl, g, l3, l4, _, rfl, k⟩⟩
/-- a tally is no tuple -/
theorem rd_eqTup (Z : TalEq K mg C) (h : TalAt C H p u f a t m) {xs : List V} (e2 : H q = some (.tup xs)) (l1 : f.length ≤ 2000) (l2 : a.length ≤ 2000)
    (k : Q (.bl false) H) : rEqOwn K C (spEqT K C) E0 (.ref p) (.ref q) H Q := by
  obtain ⟨dx, _, _, _, _, e, _⟩ := id h
  exact ⟨p, dx, _, _, rfl, e, .base (.tup e2), Z.ntup, p, u, f, a, t, m, _, rfl, h, l1, l2, Or.inl ⟨_, .base (.tup e2), Z.tup, k⟩⟩
theorem talE_rfl : talE u f a t m u f a t m = true := decide_eq_true ⟨rfl, rfl, rfl, rfl, rfl⟩
end
end My

namespace My
open PySem PySem.Spec PyProof.Rows L2
local macro_rules | `(tactic| walk_at "side") => `(tactic| first | (dsimp only; omega) | exact ⟨by omega, by omega⟩ | exact Or.inl ⟨by omega, by omega⟩ | exact Or.inr ⟨by omega, by omega⟩ | decide)
local macro_rules | `(tactic| walk_at "sq") => `(tactic| first | assumption | exact SqL.of (by assumption) | exact SqT.of (by assumption) | (refine L2.Same.seq (by assumption) ?_; walk_at "sq") | (refine L2.Same.seqT (by assumption) ?_; walk_at "sq") | exact Or.inl (by walk_at "sq") | exact Or.inr (by walk_at "sq"))
local macro_rules | `(tactic| walk_at "1") => `(tactic| first
  | refine ⟨_, rfl, iteT ?_⟩
  | refine ⟨_, rfl, iteF ?_⟩
  | refine ⟨_, rfl, ?_⟩
  | refine ⟨_, _, rfl, rfl, (by walk_at "side"), ?_⟩
  | refine ⟨_, _, rfl, rfl, ?_⟩
  | refine ⟨_, _, _, _, true, rfl, .ty _, .base (.int _), kit_ty (a := "int") (by decide +kernel), ?_⟩
  | refine ⟨_, _, _, _, false, rfl, .ty _, .base (.int _), kit_ty (a := "int") (by decide +kernel), ?_⟩
  | refine ⟨_, _, rfl, (by walk_at "sq"), ?_⟩
  | refine ⟨_, _, _, _, rfl, rfl, (by walk_at "sq"), (by first | rfl | assumption), ?_⟩
  | refine Or.inl ⟨_, _, _, _, rfl, rfl, (by walk_at "sq"), (by first | rfl | assumption), ?_⟩
  | refine Or.inr (Or.inl ⟨_, _, _, _, rfl, rfl, (by walk_at "sq"), (by first | rfl | assumption), ?_⟩)
  | refine ⟨_, _, rfl, Or.inl ⟨(by walk_at "sq"), ?_⟩⟩
  | refine ⟨rfl, ?_⟩
  | refine iteT ?_
  | refine iteF ?_
  | refine ⟨_, _, _, _, _, rfl, (by assumption), (by assumption), (by assumption), (by assumption), ?_⟩
  | refine Or.inl ⟨_, rfl, ?_⟩
  | refine Or.inr ⟨_, rfl, ?_⟩
  | refine ⟨_, _, rfl, (by walk_at "side"), ?_⟩
  | refine ⟨_, _, rfl, ?_⟩)
local macro_rules | `(tactic| walk_at "fld") => `(tactic| skip)
local macro_rules | `(tactic| walk_at "s") => `(tactic| repeat walk_at "1")
local macro_rules | `(tactic| walk_at "size") => `(tactic| first | exact Nat.le_of_ble_eq_true rfl | (simp only [List.length_map, List.length_append, List.length_cons, List.length_nil]; omega))
local macro_rules | `(tactic| walk_at "new") => `(tactic| (first | refine ⟨(by walk_at "size"), fun p hp => ?_⟩ | refine fun p hp => ?_); (generalize hq : upd _ p _ = H1); (obtain ⟨s, e⟩ := new_facts hp hq); clear hq)
/-! == of rows and of tallies; drawn rows made and counted -/
open Rw (leO upTo tmR gt cntR Qp ov)
structure EqR (P : Program) (w : World) (K : PySem.W.Frag) (mg : Str → Option Value) (base : Heap) (R : Addr) : Prop where
  ex : ∃ f fd, FnOk P w K mg base CX0 1 f fd ["self", "other"] (Rw.spEqRow K R) ∧ PySem.W.findIn K (.ref R) "__eq__" = some (some (.ref f)) ∧ PySem.W.isFn K (.ref f) = true ∧ Binds K fd ["self", "other"] []
theorem EqR.own {X : Cx} {R : Addr} (O : EqR X.prog X.w X.K X.mg X.base R) (Z : Rw.RowEq X.K X.mg R) : EqOwn X CX0 1 R (Rw.spEqRow X.K R) E0 := by
  obtain ⟨f, fd, F, h1, h2, h3⟩ := O.ex
  exact ⟨⟨f, fd, _, F, h1, h2, h3⟩, Z.ne, Z.mro, pass0⟩
theorem op_eqR {X : Cx} {R : Addr} (O : EqR X.prog X.w X.K X.mg X.base R) (Z : Rw.RowEq X.K X.mg R) (hr : Room 1 X.A) : OpR X (compareOp .Eq) (rEqOwn X.K R (Rw.spEqRow X.K R) E0) := op_eqOwn (O.own Z) hr
theorem op_neR {X : Cx} {R : Addr} (O : EqR X.prog X.w X.K X.mg X.base R) (Z : Rw.RowEq X.K X.mg R) (hr : Room 2 X.A) : OpR X (compareOp .NotEq) (rNeOwn X.K R (Rw.spEqRow X.K R) E0) := op_neOwn (O.own Z) hr
section
variable {K : PySem.W.Frag} {mg : Str → Option Value} {R C p q : Addr} {H : Hp} {Q : VK} {f a : List (Option Int)} {m : Int}
theorem rd_eqRow (Z : Rw.RowEq K mg R) (h : Rw.RowAt R H p f a m) (g : Rw.RowAt R H q f a m) (k : Q (.bl true) H) : rEqOwn K R (Rw.spEqRow K R) E0 (.ref p) (.ref q) H Q := by
  obtain ⟨dx, _, _, e, _⟩ := id h
  obtain ⟨dx2, _, _, e2, _⟩ := id g
  exact ⟨p, dx, _, _, rfl, e, Z.ins _ _ _ _ e2, Z.nself, p, f, a, m, _, rfl, h, Or.inr ⟨q, f, a, m, rfl, g, by rw [decide_eq_true ⟨rfl, rfl, rfl⟩]; exact k⟩⟩
theorem rd_neRow (Z : Rw.RowEq K mg R) (h : Rw.RowAt R H p f a m) (g : Rw.RowAt R H q f a m) (k : Q (.bl false) H) : rNeOwn K R (Rw.spEqRow K R) E0 (.ref p) (.ref q) H Q := by
  obtain ⟨dx, _, _, e, _⟩ := id h
  obtain ⟨dx2, _, _, e2, _⟩ := id g
  exact ⟨p, dx, _, _, rfl, e, Z.ins _ _ _ _ e2, Z.nself, p, f, a, m, _, rfl, h, Or.inr ⟨q, f, a, m, rfl, g, _, rfl, by rw [decide_eq_true ⟨rfl, rfl, rfl⟩]; exact k⟩⟩
end
section
variable {K : PySem.W.Frag} {mg : Str → Option Value} {C p q : Addr} {H : Hp} {Q : VK} {u : Option Int} {f : List Stp} {a : List Sti} {t m : Int}
theorem rd_eqT1 (Z : TalEq K mg C) (h : TalAt C H p u f a t m) (g : TalAt C H q u f a t m) (pt : PartsT f a t m) (k : Q (.bl true) H) : rEqOwn K C (spEqT K C) E0 (.ref p) (.ref q) H Q := by
  have h1 := pt.lf
  have h2 := pt.la
  refine rd_eqTal Z h g (by omega) (by omega) (by omega) (by omega) ?_
  rw [talE_rfl]
  exact k
theorem rd_neT1 (Z : TalEq K mg C) (h : TalAt C H p u f a t m) (g : TalAt C H q u f a t m) (pt : PartsT f a t m) (k : Q (.bl false) H) : rNeOwn K C (spEqT K C) E0 (.ref p) (.ref q) H Q := by
  have h1 := pt.lf
  have h2 := pt.la
  refine rd_neTal Z h g (by omega) (by omega) (by omega) (by omega) ?_
  rw [talE_rfl]
  exact k
end
/-- what is known of a drawn row -/
structure LineK (f a : List (Option Int)) (m : Int) : Prop where
  ok : Rw.OkRow f a m
  pt : Rw.Parts f a m
  m1 : m ≤ 50
  lf : f.length ≤ 5
  made : ∀ f' a' m', Rw.MadeOf f a m f' a' m' → RowK 8 f' a' m' ∧ (∀ n, tmR f' a' m' n = tmR f a m n) ∧ (m = 0 → m' = 0) ∧ (0 < m → 0 < m')
  nil : gt a 0 = none → ∀ t, CntOf (tmR f a m) t none
  num : ∀ lo t, gt a 0 = some lo → (m = 0 ∧ lo ≤ t → CntOf (tmR f a m) t none) ∧ (¬ (m = 0 ∧ lo ≤ t) → ∃ N : Nat, N ≤ 5 + 3 * (t + 2).toNat + 3 ∧ ∀ n, upTo t (tmR f a m n) = decide (n < N))
  live : 0 < m → ∀ n, f.length ≤ n → ∃ x, tmR f a m n = some x
theorem line_known {f a : List (Option Int)} {m : Int} (D : DrawnL f a m) : LineK f a m := by
  cases D with
  | none =>
    refine ⟨⟨rfl, rfl, by simp, Or.inr ⟨rfl, rfl, Or.inl rfl, rfl⟩⟩, ⟨by simp, by decide, by show 1 < 500; decide, by decide, by decide⟩, by decide, by decide, fun f' a' m' M => ?_, fun _ t => empty_cnt t, fun lo t h => (by cases h), fun h => absurd h (by decide)⟩
    obtain ⟨rfl, rfl, rfl⟩ := made_one M
    exact ⟨Or.inl ⟨rfl, rfl, rfl⟩, fun _ => rfl, fun _ => rfl, fun h => h⟩
  | some k L R lo hi m hk hL hR up hlo hhi hm =>
    have lf : (List.replicate k (Option.none : Option Int) ++ L.map Option.some).length = k + L.length := by rw [List.length_append, List.length_replicate, List.length_map]
    have la : (R.map Option.some).length = R.length := List.length_map ..
    have le : hi - lo ≤ m ∧ 0 ≤ m ∧ m ≤ 50 := by
      have h1 := (List.pairwise_append.mp up.asc).2.1
      have h2 := Rw.head_le h1 hlo (List.mem_of_getLast? hhi)
      rcases hm with ⟨h, e⟩ | h <;> omega
    have S : Rw.ShapeG (List.replicate k Option.none ++ L.map Option.some) (R.map Option.some) m := ⟨k, L, R, lo, hi, rfl, rfl, up.asc, hlo, hhi, le.1, by omega, by omega, by omega, by omega, fun _ _ => ⟨trivial, trivial⟩⟩
    have blo := up.bd lo (List.mem_append_right _ (List.mem_of_mem_head? hlo))
    have g0 : gt (R.map Option.some) 0 = Option.some lo := by
      cases R with
      | nil => cases hlo
      | cons w r => exact hlo
    have mono : ∀ i j, i ≤ j → leO (tmR (List.replicate k Option.none ++ L.map Option.some) (R.map Option.some) m i) (tmR (List.replicate k Option.none ++ L.map Option.some) (R.map Option.some) m j) := fun i j q => Rw.mono_all S.mono q
    have qp := Rw.tm_qp (f := List.replicate k Option.none ++ L.map Option.some) (m := m) S.ne
    have eF : tmR (List.replicate k Option.none ++ L.map Option.some) (R.map Option.some) m (List.replicate k (Option.none : Option Int) ++ L.map Option.some).length = Option.some lo := by
      have := Rw.tm_a (f := List.replicate k Option.none ++ L.map Option.some) (m := m) 0 S.ne
      rw [Nat.zero_mul, Nat.add_zero, Int.natCast_zero, Int.zero_mul, Rw.later1_zero, g0] at this
      exact this
    refine ⟨S.ok, S.parts, by omega, by omega, fun f' a' m' M => ?_, fun h => (by rw [g0] at h; cases h), fun lo' t h => ?_, fun _ n hn => S.live n hn⟩
    · obtain ⟨rm, tm⟩ := rowM_of (B := 8) S M (by omega)
      refine ⟨Or.inr rm, tm, fun hz => ?_, fun hp => ?_⟩
      · obtain ⟨t, b, F, _, _, _, rfl⟩ := M
        rw [hz, Int.zero_mul, Int.zero_ediv]
      · obtain ⟨t, b, F, _, _, _, rfl⟩ := M
        obtain ⟨c, hc⟩ := F.fits.dvd
        have num := Rw.fits_num F.fits hc S.ne
        have nn := rm.m0
        rcases Int.lt_or_eq_of_le nn with q | q
        · exact q
        · rw [← q, Int.zero_mul] at num
          omega
    · rw [g0] at h
      cases h
      refine ⟨fun ⟨hz, hlt⟩ => Or.inl ⟨rfl, fun n => ?_⟩, fun hn => ?_⟩
      · have q := qp.iter (Nat.le_refl _) n
        rw [eF, hz, Int.mul_zero, Rw.later1_zero] at q
        rw [hz] at mono ⊢
        have l := mono n _ (show n ≤ (List.replicate k (Option.none : Option Int) ++ L.map Option.some).length + n * (R.map Option.some).length by
          have : n * 1 ≤ n * (R.map Option.some).length := Nat.mul_le_mul_left _ S.ne
          omega)
        rw [q] at l
        exact Rw.upTo_le l (decide_eq_true hlt)
      · obtain ⟨N, _, c⟩ := Rw.cnt_spec (time := t) S.ne le.2.1 mono g0 (by omega)
        refine ⟨N, ?_, c⟩
        by_cases hp : 0 < m
        · have q := qp.iter (Nat.le_refl _) (t + 2).toNat
          have c1 := c ((List.replicate k (Option.none : Option Int) ++ L.map Option.some).length + (t + 2).toNat * (R.map Option.some).length)
          rw [q, eF] at c1
          have big : t < lo + ((t + 2).toNat : Int) * m := by
            have : ((t + 2).toNat : Int) * 1 ≤ ((t + 2).toNat : Int) * m := Int.mul_le_mul_of_nonneg_left (by omega) (by omega)
            omega
          have e : upTo t (Rw.later1 (((t + 2).toNat : Int) * m) (Option.some lo)) = false := decide_eq_false (by omega : ¬ lo + ((t + 2).toNat : Int) * m ≤ t)
          rw [e] at c1
          have c1 := of_decide_eq_false c1.symm
          have : (t + 2).toNat * (R.map Option.some).length ≤ (t + 2).toNat * 3 := Nat.mul_le_mul_left _ (by omega)
          omega
        · have c1 := c (List.replicate k (Option.none : Option Int) ++ L.map Option.some).length
          rw [eF] at c1
          have e : upTo t (Option.some lo) = false := decide_eq_false (by omega)
          rw [e] at c1
          have c1 := of_decide_eq_false c1.symm
          omega
section
variable {R : Addr} {H : Hp} {Q : VK} {E : XK} {p : Addr} {f a : List (Option Int)} {m : Int}
theorem rd_lrow (L : LineK f a m) (hT : Rw.ToldAt H p f a m) (k : ∀ H' q f' a' m', Same H H' → H q = none → RowK 8 f' a' m' → (∀ n, tmR f' a' m' n = tmR f a m n) → (m = 0 → m' = 0) → (0 < m → 0 < m') → Rw.RowAt R H' q f' a' m' → Q (.ref q) H') : spLRow R [.ref p] H Q E :=
  ⟨p, f, a, m, rfl, hT, L.ok, L.pt, fun H' q f' a' m' s n M r => by
    obtain ⟨h1, h2, h3, h4⟩ := L.made _ _ _ M
    exact k H' q f' a' m' s n h1 h2 h3 h4 r⟩
theorem rd_lcount (L : LineK f a m) (hT : Rw.ToldAt H p f a m) {t : Int} (k : ∀ v, CntOf (tmR f a m) t v → Q (cV v) H) : Rw.spLCount [.ref p, .int t] H Q E := by
  refine ⟨p, f, a, m, t, rfl, hT, L.pt, fun h => k none (L.nil h t), fun lo h => ⟨fun q => k none ((L.num lo t h).1 q), fun q => ?_⟩⟩
  obtain ⟨N, _, c⟩ := (L.num lo t h).2 q
  refine ⟨N, fun n hn => by rw [c n]; exact decide_eq_true hn, by rw [c N]; exact decide_eq_false (Nat.lt_irrefl _), k (some (N : Int)) (Or.inr ⟨N, rfl, c⟩)⟩
/-- what is counted is small -/
theorem LineK.small (L : LineK f a m) {t : Int} (ht : t ≤ 100) {v : Option Int} (h : CntOf (tmR f a m) t v) : ∀ i, v = some i → i.natAbs.log2 < 1920 := fun i e => by
  subst e
  have key : i.natAbs ≤ 1000 → i.natAbs.log2 < 1920 := fun h => log_small (by
    have p64 : (2 : Nat) ^ 64 = 18446744073709551616 := by decide
    omega)
  refine key ?_
  cases hg : gt a 0 with
  | none => exact nomatch (L.nil hg t).fn h
  | some lo =>
    by_cases q : m = 0 ∧ lo ≤ t
    · exact nomatch ((L.num lo t hg).1 q).fn h
    · obtain ⟨N, hN, c⟩ := (L.num lo t hg).2 q
      have := CntOf.fn (show CntOf (tmR f a m) t (some (N : Int)) from Or.inr ⟨N, rfl, c⟩) h
      have := Option.some.inj this
      omega
/-- of a row that goes on, finitely many are at a time -/
theorem LineK.fin (L : LineK f a m) (hm : 0 < m) {t : Int} {v : Option Int} (h : CntOf (tmR f a m) t v) : ∃ N : Nat, v = some (N : Int) ∧ ∀ n, upTo t (tmR f a m n) = decide (n < N) := by
  cases hg : gt a 0 with
  | none =>
    obtain ⟨x, hx⟩ := L.live hm f.length (Nat.le_refl _)
    rcases L.nil hg (x - 1) with ⟨_, q⟩ | ⟨_, q, _⟩
    · have := q f.length
      rw [hx] at this
      exact absurd (of_decide_eq_true this) (by omega)
    · cases q
  | some lo =>
    obtain ⟨N, _, c⟩ := (L.num lo t hg).2 (by omega)
    exact ⟨N, (CntOf.fn (show CntOf (tmR f a m) t (some (N : Int)) from Or.inr ⟨N, rfl, c⟩) h).symm, c⟩
end
end My

namespace My
open PySem PySem.Spec PyProof.Rows L2
local macro_rules | `(tactic| walk_at "side") => `(tactic| first | (dsimp only; omega) | exact ⟨by omega, by omega⟩ | exact Or.inl ⟨by omega, by omega⟩ | exact Or.inr ⟨by omega, by omega⟩ | decide)
local macro_rules | `(tactic| walk_at "sq") => `(tactic| first | assumption | exact SqL.of (by assumption) | exact SqT.of (by assumption) | (refine L2.Same.seq (by assumption) ?_; walk_at "sq") | (refine L2.Same.seqT (by assumption) ?_; walk_at "sq") | exact Or.inl (by walk_at "sq") | exact Or.inr (by walk_at "sq"))
local macro_rules | `(tactic| walk_at "1") => `(tactic| first
  | refine ⟨_, rfl, iteT ?_⟩
  | refine ⟨_, rfl, iteF ?_⟩
  | refine ⟨_, rfl, ?_⟩
  | refine ⟨_, _, rfl, rfl, (by walk_at "side"), ?_⟩
  | refine ⟨_, _, rfl, rfl, ?_⟩
  | refine ⟨_, _, _, _, true, rfl, .ty _, .base (.int _), kit_ty (a := "int") (by decide +kernel), ?_⟩
  | refine ⟨_, _, _, _, false, rfl, .ty _, .base (.int _), kit_ty (a := "int") (by decide +kernel), ?_⟩
  | refine ⟨_, _, rfl, (by walk_at "sq"), ?_⟩
  | refine ⟨_, _, _, _, rfl, rfl, (by walk_at "sq"), (by first | rfl | assumption), ?_⟩
  | refine Or.inl ⟨_, _, _, _, rfl, rfl, (by walk_at "sq"), (by first | rfl | assumption), ?_⟩
  | refine Or.inr (Or.inl ⟨_, _, _, _, rfl, rfl, (by walk_at "sq"), (by first | rfl | assumption), ?_⟩)
  | refine ⟨_, _, rfl, Or.inl ⟨(by walk_at "sq"), ?_⟩⟩
  | refine ⟨rfl, ?_⟩
  | refine iteT ?_
  | refine iteF ?_
  | refine ⟨_, _, _, _, _, rfl, (by assumption), (by assumption), (by assumption), (by assumption), ?_⟩
  | refine Or.inl ⟨_, rfl, ?_⟩
  | refine Or.inr ⟨_, rfl, ?_⟩
  | refine ⟨_, _, rfl, (by walk_at "side"), ?_⟩
  | refine ⟨_, _, rfl, ?_⟩)
local macro_rules | `(tactic| walk_at "fld") => `(tactic| skip)
local macro_rules | `(tactic| walk_at "s") => `(tactic| repeat walk_at "1")
local macro_rules | `(tactic| walk_at "size") => `(tactic| first | exact Nat.le_of_ble_eq_true rfl | (simp only [List.length_map, List.length_append, List.length_cons, List.length_nil]; omega))
local macro_rules | `(tactic| walk_at "new") => `(tactic| (first | refine ⟨(by walk_at "size"), fun p hp => ?_⟩ | refine fun p hp => ?_); (generalize hq : upd _ p _ = H1); (obtain ⟨s, e⟩ := new_facts hp hq); clear hq)
/-! a row and its tally tell the same -/
open Rw (leO upTo tmR gt cntR Qp ov)
def reprO : Option Int → Str
  | none => "None"
  | some i => toString i
theorem call_reprO {X : Cx} : CallR X (.builtin "repr") (fun xs H Q => ∃ t : Option Int, xs = [cV t] ∧ (∀ i, t = some i → i.natAbs.log2 < 1920) ∧ Q (.str (reprO t)) H) := by
  intro pins s σ H xs us Q I r h
  obtain ⟨t, rfl, hz, q⟩ := h
  obtain ⟨u, rfl, rx⟩ := vals1 r
  cases t with
  | none =>
    cases (show u = Value.none from rx)
    exact PySem.P.repr_of_none ⟨.str _, H, I.tok _, ⟨_, rfl⟩, q⟩
  | some i =>
    obtain ⟨k, rfl⟩ := (show ∃ t, u = Value.int i t from rx)
    exact PySem.P.repr_of_int (hz i rfl) ⟨.str _, H, I.tok _, ⟨_, rfl⟩, q⟩
/-- what the law calls -/
structure Calls (P : Program) (w : World) (K : PySem.W.Frag) (mg : Str → Option Value) (base : Heap) (R C D : Addr) : Prop where
  T : Txt mg
  zR : Rw.RowCls K mg R
  eR : Rw.RowEq K mg R
  qR : EqR P w K mg base R
  zC : TalCls K C
  eC : TalEq K mg C
  qC : EqT P w K mg base C
  tally : OwnF P w K mg base "tally" s_tally 8 ["row"] (spTally R C)
  goings : OwnF P w K mg base "goings" s_goings 7 ["counts"] (spGoings C R)
  by_ : Mth P w K mg base C "by" 3 ["self", "time"] (spTold C)
  rateC : Prp P w K mg base C "rate" 2 ["self"] (spRate C)
  time : Mth P w K mg base R "time" 1 ["self", "n"] (Rw.spTime R)
  rateR : Prp P w K mg base R "rate" 2 ["self"] (Rw.spRate R)
  row : Own P w K mg base "_law_row" 6 ["line"] (spLRow R)
  count : Own P w K mg base "_law_count" 2 ["line", "time"] Rw.spLCount
def spRowR : Sp := fun vs H Q _ => ∃ (p : Addr) (f a : List (Option Int)) (m : Int), vs = [.ref p] ∧ Rw.ToldAt H p f a m ∧ LineK f a m ∧ ∀ H', Same H H' → Q (.bl true) H'
section
variable {P : Program} {w : World} {K : PySem.W.Frag} {mg : Str → Option Value} {base : Heap} {R C D : Addr}
abbrev s_law_row_right : Stmt := topS 63
theorem sc_law_row_right : FnScope ["line", "row", "counts", "time", "n", "upper", "lower"] ["line"] (defScope s_law_row_right) := ⟨rfl, rfl, rfl, by decide +kernel, rfl, by decide +kernel, by decide +kernel⟩
set_option maxHeartbeats 16000000 in
theorem ok_row_right (F : Df K mg "_law_row_right" s_law_row_right ["line"]) (W : Calls P w K mg base R C D) : Own P w K mg base "_law_row_right" 9 ["line"] spRowR := by
  obtain ⟨T, zR, eR, qR, zC, eC, qC, o_tally, o_goings, o_by, o_rateC, o_time, o_rateR, o_row, o_count⟩ := W
  refine F.own sc_law_row_right (fun vs H Q E h => ?_) (fun fa cdv A outer s H vs Q E hr h => ?_)
  · obtain ⟨_, _, _, _, rfl, _⟩ := h
    rfl
  · obtain ⟨p, f, a, m, rfl, hL, L, k⟩ := h
    refine ⟨_, (pss_cons (ps_set (i := 1) sc_law_row_right.nd rfl (Or.inl rfl) (pe_own o_row (hr.mono (by decide)) (pa_cons (pv 0) pa_nil)))
  (pss_cons (ps_set (i := 2) sc_law_row_right.nd rfl (Or.inl rfl) (pe_own o_tally.own (hr.mono (by decide)) (pa_cons (pv 1) pa_nil)))
  (pss_cons (ps_for PassesOwn.never rfl (pi_range2 (by rfl) T.range (pa_cons (pe_op op_sub pe_int pe_int) (pa_cons pe_int pa_nil))) (pg_name (i := 3) sc_law_row_right.nd rfl (Or.inl rfl))
    (pss_one (ps_if (pt_cmpR op_ne (pe_callB call_reprO (by rfl) T.repr (by decide +kernel) (pa_cons (pe_mth zC.cl o_by (hr.mono (by decide)) (pv 2) (pa_cons (pv 3) pa_nil)) pa_nil)) (pe_callB call_reprO (by rfl) T.repr (by decide +kernel) (pa_cons (pe_own o_count (hr.mono (by decide)) (pa_cons (pv 0) (pa_cons (pv 3) pa_nil))) pa_nil)) (nomark _))
        (pss_one (ps_ret pe_bl))
        pss_nil)))
  (pss_cons (ps_if (PW.pt (pw_or (pt_cmpR (op_neR qR eR (hr.mono (by decide))) (pe_own o_goings.own (hr.mono (by decide)) (pa_cons (pv 2) pa_nil)) (pv 1) (nomark _)) (pw_or (pt_not (pt_val (pe_callB call_isi (by rfl) T.isinstance (by decide +kernel) (pa_cons (pv 2) (pa_cons (pe_glob (v := .ref C) (by rfl) eC.g rfl) pa_nil))))) (pw_or1 (pt_cmpR (op_neT qC eC (hr.mono (by decide))) (pe_ownK o_tally (hr.mono (by decide)) (fun _ _ _ _ _ _ _ => rfl) (pk_cons (pv 1) pk_nil)) (pv 2) (nomark _))))))
    (pss_one (ps_ret pe_bl))
    pss_nil)
  (C8.pss_cut (ps_if (pt_cmpR op_gt (pe_ix ix_tup (pv 0) pe_int (fun _ _ => rfl)) pe_int (nomark _))
    (pss_cons (ps_set (i := 4) sc_law_row_right.nd rfl (Or.inl rfl) (pe_op op_add (pe_op op_pow pe_int pe_int) (pe_callB call_len_seq (by rfl) T.len PySem.boot_len (pa_cons (pe_ix ix_tup (pv 0) pe_int (fun _ _ => rfl)) pa_nil))))
      (pss_one (ps_if (pt_not (pt_chain op_le op_lt (pe_mth zC.cl o_by (hr.mono (by decide)) (pv 2) (pa_cons (pe_op op_sub (pe_mth zR.cl o_time (hr.mono (by decide)) (pv 1) (pa_cons (pv 4) pa_nil)) pe_int) pa_nil)) (pv 4) (pe_mth zC.cl o_by (hr.mono (by decide)) (pv 2) (pa_cons (pe_mth zR.cl o_time (hr.mono (by decide)) (pv 1) (pa_cons (pv 4) pa_nil)) pa_nil))))
        (pss_one (ps_ret pe_bl))
        pss_nil)))
    pss_nil)
  (pss_cons (ps_asg (pe_prp zR.cl o_rateR (hr.mono (by decide)) (pv 1)) (pg_tup (by rfl) (pgs_cons (pg_name (i := 5) sc_law_row_right.nd rfl (Or.inl rfl)) (pgs_cons (pg_name (i := 6) sc_law_row_right.nd rfl (Or.inl rfl)) pgs_nil))))
  (pss_one (ps_ret (pe_alt (pe_cmpR op_eq (pe_prp zC.cl o_rateC (hr.mono (by decide)) (pv 2)) (pe_ifExp (pt_cmpR op_gt (pv 5) pe_int (nomark _)) (pe_tup (pa_cons (pv 6) (pa_cons (pv 5) pa_nil))) pe_non) (nomark _)) (pe_cmpR (op_eqD hr.units) (pe_prp zC.cl o_rateC (hr.mono (by decide)) (pv 2)) (pe_ifExp (pt_cmpR op_gt (pv 5) pe_int (nomark _)) (pe_tup (pa_cons (pv 6) (pa_cons (pv 5) pa_nil))) pe_non) (nomark _))))))))))), ?_⟩
    refine ⟨_, rfl, ?_⟩
    refine go_nil ?_
    refine rd_lrow L hL fun H1 r f' a' m' s1 n1 rk tm z0 zp hR => ?_
    refine ⟨_, rfl, ?_⟩
    refine go_nil ?_
    refine rd_tally (B := 8) (by decide) hR rk fun H2 c u g b t n s2 n2 can cnt rate hC => ?_
    have hR2 := s2.row hR
    have s02 := s1.trans s2
    have hL2 := s02.toldL hL
    have pt := can.parts
    have tmf : tmR f' a' m' = tmR f a m := funext tm
    rw [tmf] at cnt
    refine ⟨_, _, rfl, rfl, _, _, rfl, ⟨by decide, by decide, by decide, by decide⟩, for_range (lo := 0 - 4) (n := 30) (fun i σ' H' => ∃ y : Option V, σ' = [some (.ref p), some (.ref r), some (.ref c), y, none, none, none] ∧ Same H2 H') ⟨none, rfl, Same.refl _⟩ ?_ ?_⟩
    · rintro i σ' H3 hi ⟨y, rfl, s3⟩
      obtain ⟨dx, _, _, _, _, hp, _⟩ := id (hC.same s3)
      refine ⟨_, rfl, c, dx, _, rfl, hp, rfl, _, rfl, c, u, g, b, t, n, _, rfl, hC.same s3, pt, fun H4 v s4 tv => ?_⟩
      have ev := can.told tv
      have small := L.small (t := 0 - 4 + (i : Int)) (by omega) (cnt _)
      rw [← ev] at small
      refine ⟨v, rfl, small, _, rfl, _, rfl, ?_⟩
      refine go_nil ?_
      refine rd_lcount L ((s3.trans s4).toldL hL2) fun v2 c2 => ?_
      have e2 := (cnt (0 - 4 + (i : Int))).fn c2
      rw [← e2, ← ev]
      refine ⟨v, rfl, small, rfl, _, rfl, ?_⟩
      rw [decide_eq_true rfl]
      refine iteF ?_
      exact ⟨_, rfl, s3.trans s4⟩
    · rintro σ' H3 ⟨y, rfl, s3⟩
      have hR3 := s3.row hR2
      have hC3 := hC.same s3
      have hL3 := s3.toldL hL2
      have s03 := s02.trans s3
      clear hL2 hR2 hC hL s02 s3 s1 s2 hR n1 n2
      refine ⟨_, rfl, ?_⟩
      refine go_nil ?_
      refine rd_goings (B := 24) (by decide) hC3 can fun H4 g2 f2 a2 m2 s4 n4 rk2 cnt2 hR4 => ?_
      have e2 : ∀ n, tmR f2 a2 m2 n = tmR f' a' m' n := fun n => by
        rw [tmf]
        exact row_of_cnt cnt2 cnt n
      obtain ⟨rfl, rfl, rfl⟩ := rk.uniq rk2 fun n => (e2 n).symm
      refine ⟨_, rfl, rd_neRow eR hR4 (s4.row hR3) ⟨false, rfl, ?_⟩⟩
      refine iteF ?_
      have hC4 := hC3.same s4
      obtain ⟨dx, _, _, _, _, hp4, _⟩ := id hC4
      refine ⟨_, rfl, _, _, _, _, true, rfl, .own _, eC.ins _ _ _ _ hp4, eC.self, true, rfl, ?_⟩
      refine iteF ?_
      refine ⟨_, rfl, ?_⟩
      refine go_nil ?_
      refine ⟨rfl, ?_⟩
      refine rd_tally (B := 8) (by decide) (s4.row hR3) rk fun H5 c2 u2 g5 b5 t5 n5 s5 n5' can5 cnt5 _ hC5 => ?_
      obtain ⟨rfl, rfl, rfl, rfl, rfl⟩ := can.uniq can5 fun τ => CntOf.fn (by rw [tmf]; exact cnt τ) (cnt5 τ)
      refine ⟨_, rfl, rd_neT1 eC hC5 (hC4.same s5) pt ⟨false, rfl, ?_⟩⟩
      refine iteF ?_
      have s45 := s4.trans s5
      have hR6 := s45.row hR3
      have hC6 := hC3.same s45
      have hL6 := s45.toldL hL3
      have s06 := s03.trans s45
      clear hR3 hC3 hL3 hC4 hC5 hR4 s4 s5 s45 s03 hp4 can5 cnt5 cnt2 rk2 e2 n4 n5'
      obtain ⟨pf, pa, q1, q2, q3⟩ := id hL6
      obtain ⟨dr, rf, ra, w1, w2, w3⟩ := id hR6
      obtain ⟨dc, cf, ca, xf, xa, z1, z2, z3, z4, z5⟩ := id hC6
      refine ⟨fun σ' H' => ∃ y z : Option V, σ' = [some (.ref p), some (.ref r), some (.ref c), y, z, none, none] ∧ Same H5 H', ?_, ?_⟩
      · refine ⟨_, rfl, p, _, 2, _, rfl, rfl, SqT.of q1, atI_nat (j := 2) rfl, _, _, rfl, rfl, _, rfl, ?_⟩
        by_cases hm : 0 < m
        · rw [decide_eq_true hm]
          refine iteT ?_
          refine ⟨_, _, rfl, rfl, ⟨by decide, by decide, by decide⟩, _, rfl, p, _, 0, _, rfl, rfl, SqT.of q1, atI_nat (j := 0) rfl, pf, _, rfl, Or.inl (SqL.of q2), _, _, rfl, rfl, ?_⟩
          obtain ⟨N, hN, hNf⟩ : ∃ N : Nat, (10 : Int) ^ (12 : Int).toNat + ((f.map ov).length : Int) = (N : Int) ∧ f.length ≤ N := by
            have e12 : (10 : Int) ^ (12 : Int).toNat = 1000000000000 := by decide
            exact ⟨1000000000000 + f.length, by rw [e12, List.length_map]; omega, by omega⟩
          show gName 4 (V.int ((10 : Int) ^ (12 : Int).toNat + ((f.map ov).length : Int))) _ _ _
          rw [hN]
          obtain ⟨x, hx⟩ := L.live hm N hNf
          have tN : tmR f' a' m' N = some x := by rw [tmf]; exact hx
          have ptR := rk.parts (by decide)
          refine ⟨_, rfl, c, dc, _, rfl, z1, rfl, _, rfl, r, dr, _, rfl, w1, rfl, _, rfl, r, f', a', m', N, rfl, hR6, ptR, fun H7 s7 => ?_⟩
          rw [tN]
          refine ⟨_, _, rfl, rfl, c, u, g, b, t, n, x - 1, rfl, hC6.same s7, pt, fun H8 v s8 tv => ?_⟩
          obtain ⟨N1, e1, c1⟩ := L.fin hm (cnt (x - 1))
          rw [← can.told tv] at e1
          subst e1
          have lo1 : ¬ N < N1 := by
            have := c1 N
            rw [hx] at this
            have e : upTo (x - 1) (some x) = false := decide_eq_false (by omega)
            rw [e] at this
            exact of_decide_eq_false this.symm
          refine ⟨_, rfl, _, _, rfl, rfl, _, rfl, ?_⟩
          rw [decide_eq_true (by omega : (N1 : Int) ≤ (N : Int))]
          refine iteT ?_
          have s68 := s7.trans s8
          refine ⟨_, rfl, c, dc, _, rfl, s68 _ _ z1, rfl, _, rfl, r, dr, _, rfl, s68 _ _ w1, rfl, _, rfl, r, f', a', m', N, rfl, s68.row hR6, ptR, fun H9 s9 => ?_⟩
          rw [tN]
          refine ⟨c, u, g, b, t, n, x, rfl, (hC6.same s68).same s9, pt, fun H10 v2 s10 tv2 => ?_⟩
          obtain ⟨N2, e2, c2'⟩ := L.fin hm (cnt x)
          rw [← can.told tv2] at e2
          subst e2
          have hi2 : N < N2 := by
            have := c2' N
            rw [hx] at this
            have e : upTo x (some x) = true := decide_eq_true (Int.le_refl _)
            rw [e] at this
            exact of_decide_eq_true this.symm
          refine ⟨_, _, rfl, rfl, _, rfl, ?_⟩
          rw [decide_eq_true (by omega : (N : Int) < (N2 : Int))]
          refine iteF ?_
          exact ⟨_, _, rfl, s68.trans (s9.trans s10)⟩
        · rw [decide_eq_false hm]
          refine iteF ?_
          exact ⟨_, _, rfl, Same.refl _⟩
      · rintro σ' H7 ⟨y, z, rfl, s7⟩
        have hC7 := hC6.same s7
        refine ⟨_, rfl, r, dr, _, rfl, s7 _ _ w1, r, f', a', m', rfl, s7.row hR6, rk.parts (by decide), fun H8 q s8 n8 e8 => ?_⟩
        refine ⟨q, _, rfl, SqT.of e8, rfl, _, _, rfl, _, _, rfl, rfl, ?_⟩
        have hC8 := hC7.same s8
        have s68 := s7.trans s8
        rcases rate with ⟨hz, hb⟩ | ⟨hp, hb, r1, r2⟩
        · refine Or.inl ⟨_, rfl, c, dc, _, rfl, s68 _ _ z1, c, u, g, b, t, n, rfl, hC8, pt, fun _ => ?_, fun h => absurd hb h⟩
          refine ⟨_, rfl, _, _, rfl, rfl, _, rfl, ?_⟩
          have e0 : Rw.lowN m' a'.length = 0 := by
            rw [hz]
            exact Int.zero_ediv _
          rw [e0]
          refine iteF ?_
          exact ⟨rfl, k _ (s06.trans s68)⟩
        · refine Or.inr ⟨_, rfl, c, dc, _, rfl, s68 _ _ z1, c, u, g, b, t, n, rfl, hC8, pt, fun h => absurd h hb, fun _ H9 q4 s9 n9 e9 => ?_⟩
          refine ⟨_, rfl, _, _, rfl, rfl, _, rfl, ?_⟩
          have T0 : 0 < a'.length := List.length_pos_iff.mpr (rk.parts (by decide)).ne
          have up0 : 0 < Rw.lowN m' a'.length := by
            have g0 : 0 < Nat.gcd m'.natAbs (a'.length : Int).natAbs := Nat.gcd_pos_of_pos_left _ (by omega)
            have g1 : Nat.gcd m'.natAbs (a'.length : Int).natAbs ≤ m'.natAbs := Nat.gcd_le_left _ (by omega)
            exact Int.lt_of_lt_of_le Int.zero_lt_one (Int.le_ediv_of_mul_le (by omega) (by omega))
          rw [decide_eq_true up0]
          refine iteT ?_
          refine ⟨_, rfl, _, rfl, Nat.le_of_ble_eq_true rfl, fun q5 n5 => ?_⟩
          generalize hq : upd H9 q5 _ = H10
          obtain ⟨s10, e10⟩ := new_facts n5 hq
          clear hq
          have d1 : Dv H10 (.ref q4) (siD (lowN n t, lowD n t)) := si_dv (s10 _ _ e9)
          have d2 : Dv H10 (.ref q5) (siD (Rw.lowD m' a'.length, Rw.lowN m' a'.length)) := si_dv e10
          refine ⟨_, _, d1.dp, d2.dp, rfl, rfl, ?_⟩
          have c1 : lowN n t = Rw.lowD m' a'.length := by
            rw [r1]
            show (a'.length : Int) / (Nat.gcd _ _ : Nat) = (a'.length : Int) / (Nat.gcd _ _ : Nat)
            rw [Nat.gcd_comm]
          have c2 : lowD n t = Rw.lowN m' a'.length := by
            rw [r2]
            show m' / (Nat.gcd _ _ : Nat) = m' / (Nat.gcd _ _ : Nat)
            rw [Nat.gcd_comm]
          rw [eqv_si, decide_eq_true (by rw [c1, c2])]
          exact k _ (s06.trans (s68.trans (s9.trans s10)))
end
end My

namespace My
open PySem PySem.Spec PyProof.Rows L2
local macro_rules | `(tactic| walk_at "side") => `(tactic| first | (dsimp only; omega) | exact ⟨by omega, by omega⟩ | exact Or.inl ⟨by omega, by omega⟩ | exact Or.inr ⟨by omega, by omega⟩ | decide)
local macro_rules | `(tactic| walk_at "sq") => `(tactic| first | assumption | exact SqL.of (by assumption) | exact SqT.of (by assumption) | (refine L2.Same.seq (by assumption) ?_; walk_at "sq") | (refine L2.Same.seqT (by assumption) ?_; walk_at "sq") | exact Or.inl (by walk_at "sq") | exact Or.inr (by walk_at "sq"))
local macro_rules | `(tactic| walk_at "1") => `(tactic| first
  | refine ⟨_, rfl, iteT ?_⟩
  | refine ⟨_, rfl, iteF ?_⟩
  | refine ⟨_, rfl, ?_⟩
  | refine ⟨_, _, rfl, rfl, (by walk_at "side"), ?_⟩
  | refine ⟨_, _, rfl, rfl, ?_⟩
  | refine ⟨_, _, _, _, true, rfl, .ty _, .base (.int _), kit_ty (a := "int") (by decide +kernel), ?_⟩
  | refine ⟨_, _, _, _, false, rfl, .ty _, .base (.int _), kit_ty (a := "int") (by decide +kernel), ?_⟩
  | refine ⟨_, _, rfl, (by walk_at "sq"), ?_⟩
  | refine ⟨_, _, _, _, rfl, rfl, (by walk_at "sq"), (by first | rfl | assumption), ?_⟩
  | refine Or.inl ⟨_, _, _, _, rfl, rfl, (by walk_at "sq"), (by first | rfl | assumption), ?_⟩
  | refine Or.inr (Or.inl ⟨_, _, _, _, rfl, rfl, (by walk_at "sq"), (by first | rfl | assumption), ?_⟩)
  | refine ⟨_, _, rfl, Or.inl ⟨(by walk_at "sq"), ?_⟩⟩
  | refine ⟨rfl, ?_⟩
  | refine iteT ?_
  | refine iteF ?_
  | refine ⟨_, _, _, _, _, rfl, (by assumption), (by assumption), (by assumption), (by assumption), ?_⟩
  | refine Or.inl ⟨_, rfl, ?_⟩
  | refine Or.inr ⟨_, rfl, ?_⟩
  | refine ⟨_, _, rfl, (by walk_at "side"), ?_⟩
  | refine ⟨_, _, rfl, ?_⟩)
local macro_rules | `(tactic| walk_at "fld") => `(tactic| skip)
local macro_rules | `(tactic| walk_at "s") => `(tactic| repeat walk_at "1")
local macro_rules | `(tactic| walk_at "size") => `(tactic| first | exact Nat.le_of_ble_eq_true rfl | (simp only [List.length_map, List.length_append, List.length_cons, List.length_nil]; omega))
local macro_rules | `(tactic| walk_at "new") => `(tactic| (first | refine ⟨(by walk_at "size"), fun p hp => ?_⟩ | refine fun p hp => ?_); (generalize hq : upd _ p _ = H1); (obtain ⟨s, e⟩ := new_facts hp hq); clear hq)
/-! a tally and its row tell the same -/
open Rw (leO upTo tmR gt cntR Qp ov)
theorem GoodQ.up2 {u : Int} {g a : List Sti} {t m : Int} {s : Nat → Sti} (G : GoodQ u g a t m s) : ∀ k : Nat, (s 0).2 + k ≤ (s k).2
  | 0 => by omega
  | k + 1 => by
    have := GoodQ.up2 G k
    have h := (G.step k).2.2.1
    omega
theorem drawn_ends {U : Int} {f : List Stp} {a : List Sti} {t m : Int} (D : DrawnR (some U) f a t m) : (∀ τ, τ ≤ -7 → atL (some U) f a t m τ = some U) ∧ (atL (some U) f a t m 100 = none ∨ ∃ c, atL (some U) f a t m 100 = some c ∧ 30 ≤ c) := by
  cases D with
  | ends u t0 d ss hu ht hc hl hd =>
    have bd := fun y hy => chain_bound hc y hy
    have lb : t0 ≤ (lastS (t0, U) ss).1 ∧ (lastS (t0, U) ss).1 ≤ t0 + 9 := by
      unfold lastS
      cases e : ss.getLast? with
      | none => exact ⟨Int.le_refl _, by show t0 ≤ t0 + 9; omega⟩
      | some y =>
        have h1 := bd y (List.mem_of_getLast? e)
        have h2 : t0 < y.1 := h1.1
        have h3 : y.1 ≤ t0 + 3 * ss.length := h1.2.1
        exact ⟨by show t0 ≤ y.1; omega, by show y.1 ≤ t0 + 9; omega⟩
    generalize (lastS (t0, U) ss).1 = T at lb
    constructor
    · intro τ hτ
      show (ss.map up ++ [(T + d, none)]).foldl (firstAt τ) (some U) = some U
      have all : ∀ x ∈ ss.map up ++ [((T + d, none) : Stp)], ¬ x.1 ≤ τ := fun x hx => by
        rcases List.mem_append.mp hx with q | q
        · obtain ⟨y, hy, rfl⟩ := List.mem_map.mp q
          have h2 : t0 < y.1 := (bd y hy).1
          show ¬ y.1 ≤ τ
          omega
        · rw [List.mem_singleton.mp q]
          show ¬ T + d ≤ τ
          omega
      generalize ss.map up ++ [((T + d, none) : Stp)] = l at all
      induction l with
      | nil => rfl
      | cons x r ih =>
        rw [List.foldl_cons]
        have e : firstAt τ (some U) x = some U := if_neg (all x (.head _))
        rw [e]
        exact ih fun y hy => all y (.tail _ hy)
    · left
      show (ss.map up ++ [(T + d, none)]).foldl (firstAt 100) (some U) = none
      rw [List.foldl_append]
      exact if_pos (show T + d ≤ 100 by omega)
  | turns u t0 dt dm ss as x y hu ht hc hl ha hla hx hy hdt hdm =>
    obtain ⟨un, rfl⟩ : ∃ n : Nat, U = n := ⟨U.toNat, by omega⟩
    have G := drawn_good hu ht hc ha hx hy hdt hdm
    obtain ⟨tp, mp⟩ := turn_pos G.rise G.seq
    have far := G.far ss.length a.length
    have nx := G.seq.per ss.length (Nat.le_refl _)
    generalize sq ss a (y.1 - x.1 + dt) (y.2 - x.2 + dm) = s at G far nx
    generalize y.1 - x.1 + dt = t at *
    generalize y.2 - x.2 + dm = m at *
    have tb : t ≤ 9 ∧ m ≤ 9 := by
      rw [nx] at far
      have h1 : (s ss.length).1 + t ≤ (s ss.length).1 + 3 * a.length := far.1
      have h2 : (s ss.length).2 + m ≤ (s ss.length).2 + 3 * a.length := far.2.1
      omega
    have St : Steps un ss a t m s := ⟨G.seq, G.rise, G.u0, G.un, by omega, by omega, by omega, by omega⟩
    have lo := G.lo
    have hi := G.hi
    have un := G.un
    have u0 := G.u0
    constructor
    · intro τ hτ
      rcases St.tell τ with ⟨_, e⟩ | ⟨k, h1, _, _⟩
      · exact e
      · have := (G.far 0 k).2.2
        rw [Nat.zero_add] at this
        omega
    · right
      rcases St.tell 100 with ⟨h1, e⟩ | ⟨k, h1, h2, e⟩
      · omega
      · refine ⟨_, e, ?_⟩
        have h3 := (G.far 0 (k + 1)).1
        rw [Nat.zero_add] at h3
        have h4 := G.up2 k
        omega
theorem less_upTo {r : Nat → Option Int} {τ : Int} {v : Option Int} (h : CntOf r τ v) (n : Nat) : lessO (some (n : Int)) v = upTo τ (r n) := by
  rcases h with ⟨rfl, q⟩ | ⟨N, rfl, q⟩
  · rw [q n]
    rfl
  · rw [q n]
    show decide ((n : Int) < N) = _
    by_cases c : n < N
    · rw [decide_eq_true c, decide_eq_true (by omega)]
    · rw [decide_eq_false c, decide_eq_false (by omega)]
theorem due_none {fs : List Stp} {as : List Sti} {t m : Int} {r : Nat → Option Int} (D : DrawnR none fs as t m) (h : ∀ τ, CntOf r τ (atL none fs as t m τ)) (n : Nat) : r n = none := by
  cases D
  cases e : r n with
  | none => rfl
  | some y =>
    have := less_upTo (h (y - 1)) n
    rw [e] at this
    exact absurd (of_decide_eq_true this.symm) (by omega)
theorem due_some {U : Int} {fs : List Stp} {as : List Sti} {t m : Int} {r : Nat → Option Int} (D : DrawnR (some U) fs as t m) (h : ∀ τ, CntOf r τ (atL (some U) fs as t m τ)) (n : Nat) (hn : n < 24) :
    ((n : Int) < U → r n = none) ∧ (U ≤ n → ∃ k : Nat, (∀ i, i < k → lessO (some n) (atL (some U) fs as t m (0 - 6 + (i : Nat))) = false) ∧ lessO (some n) (atL (some U) fs as t m (0 - 6 + (k : Nat))) = true ∧ r n = some (0 - 6 + (k : Int)) ∧ k ≤ 106) := by
  obtain ⟨lo, hi⟩ := drawn_ends D
  have h7 := less_upTo (h (-7)) n
  rw [lo _ (Int.le_refl _)] at h7
  constructor
  · intro c
    rw [show lessO (some (n : Int)) (some U) = true from decide_eq_true c] at h7
    cases e : r n with
    | none => rfl
    | some y =>
      rw [e] at h7
      have y7 : y ≤ -7 := by
        exact of_decide_eq_true h7.symm
      have h8 := less_upTo (h (y - 1)) n
      rw [lo _ (by omega), e] at h8
      have h8 : decide ((n : Int) < U) = decide (y ≤ y - 1) := h8
      rw [decide_eq_true c] at h8
      exact absurd (of_decide_eq_true h8.symm) (by omega)
  · intro c
    rw [show lessO (some (n : Int)) (some U) = false from decide_eq_false (by omega)] at h7
    cases e : r n with
    | none => rw [e] at h7; cases h7
    | some y =>
      rw [e] at h7
      have y7 : -7 < y := by
        have := of_decide_eq_false h7.symm
        omega
      have h100 := less_upTo (h 100) n
      have y100 : y ≤ 100 := by
        rw [e] at h100
        refine of_decide_eq_true (h100.symm.trans ?_)
        rcases hi with q | ⟨c, q, hc⟩
        · rw [q]
          rfl
        · rw [q]
          exact decide_eq_true (by omega)
      refine ⟨(y + 6).toNat, fun i hi => ?_, ?_, by rw [show (0 : Int) - 6 + ((y + 6).toNat : Nat) = y by omega], by omega⟩
      · rw [less_upTo (h _) n, e]
        exact decide_eq_false (by omega)
      · rw [less_upTo (h _) n, e]
        exact decide_eq_true (by omega)
/-- the tally's row -/
def spTallyR : Sp := fun vs H Q _ => ∃ (v : V) (u : Option Int) (f : List Stp) (a : List Sti) (t m : Int), vs = [v] ∧ DrawnR u f a t m ∧ Dv H v (rawD u f a t m) ∧ ∀ H', Same H H' → Q (.bl true) H'
/-- what the law calls -/
structure CallsT (P : Program) (w : World) (K : PySem.W.Frag) (mg : Str → Option Value) (base : Heap) (R C D : Addr) : Prop where
  T : Txt mg
  zR : Rw.RowCls K mg R
  eR : Rw.RowEq K mg R
  qR : EqR P w K mg base R
  zC : TalCls K C
  eC : TalEq K mg C
  qC : EqT P w K mg base C
  tally : OwnF P w K mg base "tally" s_tally 8 ["row"] (spTally R C)
  goings : OwnF P w K mg base "goings" s_goings 7 ["counts"] (spGoings C R)
  time : Mth P w K mg base R "time" 1 ["self", "n"] (Rw.spTime R)
  made : OwnX P w K mg base "_law_made" 7 ["raw"] (spMade C D)
  least : Own P w K mg base "_law_least_time" 2 ["raw", "n"] spLeastT
theorem made_of {C D : Addr} {H : Hp} {v : V} {u : Option Int} {f : List Stp} {a : List Sti} {t m : Int} {Q : VK} {E : XK} (h : Dv H v (rawD u f a t m)) (lf : f.length ≤ 1000) (la : a.length ≤ 1000) (W : TalIn u f a t m)
    (k : ∀ H' p f' a' t' m', Same H H' → H p = none → MadeT f a t m f' a' t' m' → TalAt C H' p u f' a' t' m' → Q (.ref p) H') : spMade C D [v] H Q E := by
  have w : wordT (cD u) (.list (f.map stD)) (.list (a.map siD)) (.int t) (.int m) = none := W _ _ rfl rfl rfl rfl
  obtain ⟨r, pf, pa, xf, xa, rfl, er, e1, h1, e2, h2⟩ := h.rawE
  refine ⟨r, cV u, .ref pf, .ref pa, .int t, .int m, cD u, .list (f.map stD), .list (a.map siD), .int t, .int m, rfl, Or.inr er, cV_dv u, .lst e1 h1 (by rw [List.length_map]; omega), .lst e2 h2 (by rw [List.length_map]; omega), .int t, .int m, ⟨fun w' hw' => (by rw [w] at hw'; cases hw'), fun _ => ⟨?_, ?_, fun H' p f' a' t' m' s n M T => k H' p f' a' t' m' s n ?_ ?_⟩⟩⟩
  · show (f.map stD).length ≤ 1000
    rw [List.length_map]
    exact lf
  · show (a.map siD).length ≤ 1000
    rw [List.length_map]
    exact la
  · have M' : MadeT ((f.map stD).map stO) (((a.map siD).map stO).map dn) t m f' a' t' m' := M
    rw [stOs, as_back] at M'
    exact M'
  · rw [c_back] at T
    exact T
section
variable {P : Program} {w : World} {K : PySem.W.Frag} {mg : Str → Option Value} {base : Heap} {R C D : Addr}
abbrev s_law_tally_right : Stmt := topS 64
theorem sc_law_tally_right : FnScope ["raw", "made", "row", "n", "due"] ["raw"] (defScope s_law_tally_right) := ⟨rfl, rfl, rfl, by decide +kernel, rfl, by decide +kernel, by decide +kernel⟩
set_option maxHeartbeats 8000000 in
theorem ok_tally_right (F : Df K mg "_law_tally_right" s_law_tally_right ["raw"]) (W : CallsT P w K mg base R C D) : Own P w K mg base "_law_tally_right" 9 ["raw"] spTallyR := by
  obtain ⟨T, zR, eR, qR, zC, eC, qC, o_tally, o_goings, o_time, o_law_made, o_law_least_time⟩ := W
  refine F.own sc_law_tally_right (fun vs H Q E h => ?_) (fun fa cdv A outer s H vs Q E hr h => ?_)
  · obtain ⟨_, _, _, _, _, _, rfl, _⟩ := h
    rfl
  · obtain ⟨v, u, f, a, t, m, rfl, dr, hd, k⟩ := h
    obtain ⟨wd, lf, la, t0, t1, m0, m1, tp, kn⟩ := drawn_can dr
    obtain ⟨r, pf, pa, xf, xa, rfl, er, _⟩ := id hd.rawE
    refine ⟨_, (pss_cons (ps_set (i := 1) sc_law_tally_right.nd rfl (Or.inl rfl) (pe_ownX o_law_made (hr.mono (by decide)) takes0 (pa_cons (pv 0) pa_nil)))
  (pss_cons (ps_set (i := 2) sc_law_tally_right.nd rfl (Or.inl rfl) (pe_own o_goings.own (hr.mono (by decide)) (pa_cons (pv 1) pa_nil)))
  (pss_cons (ps_for PassesOwn.never rfl (pi_range1 (by rfl) T.range (pa_cons pe_int pa_nil)) (pg_name (i := 3) sc_law_tally_right.nd rfl (Or.inl rfl))
    (pss_cons (ps_set (i := 4) sc_law_tally_right.nd rfl (Or.inl rfl) (pe_ifExp (pt_cmpR op_notN (pe_ix ix_tup (pv 0) pe_int (fun _ _ => rfl)) pe_non (nomark _)) (pe_own o_law_least_time (hr.mono (by decide)) (pa_cons (pv 0) (pa_cons (pv 3) pa_nil))) pe_non))
      (pss_one (ps_if (pt_cmpR op_ne (pe_callB call_reprO (by rfl) T.repr (by decide +kernel) (pa_cons (pe_mth zR.cl o_time (hr.mono (by decide)) (pv 2) (pa_cons (pv 3) pa_nil)) pa_nil)) (pe_callB call_reprO (by rfl) T.repr (by decide +kernel) (pa_cons (pv 4) pa_nil)) (nomark _))
        (pss_one (ps_ret pe_bl))
        pss_nil))))
  (pss_one (ps_ret (pe_and (pe_cmpR (op_eqT qC eC (hr.mono (by decide))) (pe_own o_tally.own (hr.mono (by decide)) (pa_cons (pv 2) pa_nil)) (pv 1) (nomark _)) (pe_one (pe_cmpR (op_eqR qR eR (hr.mono (by decide))) (pe_ownK o_goings (hr.mono (by decide)) (fun _ _ _ _ _ _ _ => rfl) (pk_cons (pv 1) pk_nil)) (pv 2) (nomark _))))))))), ?_⟩
    refine ⟨_, rfl, ?_⟩
    refine go_nil ?_
    refine made_of hd (by omega) (by omega) wd fun H1 c f1 a1 t1' m1' s1 n1 M hC => ?_
    obtain ⟨can, same⟩ := kn _ _ _ _ M
    have pt := can.parts
    refine ⟨_, rfl, ?_⟩
    refine go_nil ?_
    refine rd_goings (B := 60) (by decide) hC can fun H2 g f2 a2 m2 s2 n2 rk cnt hR => ?_
    have ptR := rk.parts (by decide)
    have cntD : ∀ τ, CntOf (tmR f2 a2 m2) τ (atL u f a t m τ) := fun τ => by rw [← same τ]; exact cnt τ
    have hC2 := hC.same s2
    have s02 := s1.trans s2
    have hd2 := hd.same s02
    have er2 := s02 _ _ er
    refine ⟨_, rfl, by decide, by decide, for_range (lo := 0) (n := 24) (fun i σ' H' => ∃ y z : Option V, σ' = [some (.ref r), some (.ref c), some (.ref g), y, z] ∧ Same H2 H') ⟨none, none, rfl, Same.refl _⟩ ?_ ?_⟩
    · rintro i σ' H3 hi ⟨y, z, rfl, s3⟩
      have hd3 := hd2.same s3
      have er3 := s3 _ _ er2
      have hR3 := s3.row hR
      obtain ⟨dx3, rf, ra, w1, w2, w3⟩ := id hR3
      rw [Int.zero_add]
      refine ⟨_, rfl, r, _, 0, _, rfl, rfl, SqT.of er3, atI_nat (j := 0) rfl, rfl, _, rfl, ?_⟩
      cases u with
      | none =>
        refine iteF ?_
        have ex : tmR f2 a2 m2 i = none := due_none dr cntD i
        have sm : ∀ j : Int, (none : Option Int) = some j → j.natAbs.log2 < 1920 := fun j q => nomatch q
        refine ⟨_, rfl, g, dx3, _, rfl, (Same.refl H3) _ _ w1, rfl, _, rfl, g, f2, a2, m2, i, rfl, (Same.refl H3).row hR3, ptR, fun H5 s5 => ?_⟩
        rw [ex, ov_cV]
        refine ⟨none, rfl, sm, _, rfl, none, rfl, sm, rfl, _, rfl, ?_⟩
        rw [decide_eq_true rfl]
        refine iteF ?_
        exact ⟨_, _, rfl, s3.trans ((Same.refl H3).trans s5)⟩
      | some U =>
        refine iteT ?_
        obtain ⟨d1, d2⟩ := due_some dr cntD i hi
        refine ⟨_, rfl, _, rfl, .ref r, some U, f, a, t, m, i, rfl, hd3, tp, t0, by omega, m0, by omega, by omega, by omega, (fun q => nomatch q), fun U' eU => ?_⟩
        cases eU
        refine ⟨fun c => ?_, fun c => ?_⟩
        · have ex := d1 c
          have sm : ∀ j : Int, (none : Option Int) = some j → j.natAbs.log2 < 1920 := fun j q => nomatch q
          refine ⟨_, rfl, g, dx3, _, rfl, (Same.refl H3) _ _ w1, rfl, _, rfl, g, f2, a2, m2, i, rfl, (Same.refl H3).row hR3, ptR, fun H5 s5 => ?_⟩
          rw [ex, ov_cV]
          refine ⟨none, rfl, sm, _, rfl, none, rfl, sm, rfl, _, rfl, ?_⟩
          rw [decide_eq_true rfl]
          refine iteF ?_
          exact ⟨_, _, rfl, s3.trans ((Same.refl H3).trans s5)⟩
        · obtain ⟨τ, q1, q2, ex, lt⟩ := d2 c
          refine ⟨τ, q1, q2, fun H4 s4 => ?_⟩
          have sm : ∀ j : Int, (some (0 - 6 + (τ : Int)) : Option Int) = some j → j.natAbs.log2 < 1920 := fun j q => by
            cases q
            refine log_small ?_
            have p64 : (2 : Nat) ^ 64 = 18446744073709551616 := by decide
            omega
          refine ⟨_, rfl, g, dx3, _, rfl, s4 _ _ w1, rfl, _, rfl, g, f2, a2, m2, i, rfl, s4.row hR3, ptR, fun H5 s5 => ?_⟩
          rw [ex, ov_cV]
          refine ⟨(some (0 - 6 + (τ : Int))), rfl, sm, _, rfl, (some (0 - 6 + (τ : Int))), rfl, sm, rfl, _, rfl, ?_⟩
          rw [decide_eq_true rfl]
          refine iteF ?_
          exact ⟨_, _, rfl, s3.trans (s4.trans s5)⟩
    · rintro σ' H3 ⟨y, z, rfl, s3⟩
      have hR3 := s3.row hR
      have hC3 := hC2.same s3
      have s03 := s02.trans s3
      refine ⟨_, rfl, ?_⟩
      refine go_nil ?_
      refine rd_tally (B := 61) (by decide) hR3 rk fun H4 c2 u2 g2 b2 t2 n2' s4 n4 can2 cnt2 _ hC4 => ?_
      obtain ⟨rfl, rfl, rfl, rfl, rfl⟩ := can.uniq can2 fun τ => CntOf.fn (cnt τ) (cnt2 τ)
      refine ⟨_, rfl, rd_eqT1 eC hC4 (hC3.same s4) pt ⟨true, rfl, ?_⟩⟩
      refine iteT ?_
      refine ⟨_, rfl, ?_⟩
      refine go_nil ?_
      refine ⟨rfl, ?_⟩
      refine rd_goings (B := 60) (by decide) (hC3.same s4) can fun H5 g3 f3 a3 m3 s5 n5 rk3 cnt3 hR5 => ?_
      obtain ⟨rfl, rfl, rfl⟩ := rk.uniq rk3 fun n => row_of_cnt cnt cnt3 n
      exact ⟨_, rfl, rd_eqRow eR hR5 ((s4.trans s5).row hR3) (k _ (s03.trans (s4.trans s5)))⟩
end
end My

namespace My
open PySem PySem.Spec PyProof.Rows L2
local macro_rules | `(tactic| walk_at "side") => `(tactic| first | (dsimp only; omega) | exact ⟨by omega, by omega⟩ | exact Or.inl ⟨by omega, by omega⟩ | exact Or.inr ⟨by omega, by omega⟩ | decide)
local macro_rules | `(tactic| walk_at "sq") => `(tactic| first | assumption | exact SqL.of (by assumption) | exact SqT.of (by assumption) | (refine L2.Same.seq (by assumption) ?_; walk_at "sq") | (refine L2.Same.seqT (by assumption) ?_; walk_at "sq") | exact Or.inl (by walk_at "sq") | exact Or.inr (by walk_at "sq"))
local macro_rules | `(tactic| walk_at "1") => `(tactic| first
  | refine ⟨_, rfl, iteT ?_⟩
  | refine ⟨_, rfl, iteF ?_⟩
  | refine ⟨_, rfl, ?_⟩
  | refine ⟨_, _, rfl, rfl, (by walk_at "side"), ?_⟩
  | refine ⟨_, _, rfl, rfl, ?_⟩
  | refine ⟨_, _, _, _, true, rfl, .ty _, .base (.int _), kit_ty (a := "int") (by decide +kernel), ?_⟩
  | refine ⟨_, _, _, _, false, rfl, .ty _, .base (.int _), kit_ty (a := "int") (by decide +kernel), ?_⟩
  | refine ⟨_, _, rfl, (by walk_at "sq"), ?_⟩
  | refine ⟨_, _, _, _, rfl, rfl, (by walk_at "sq"), (by first | rfl | assumption), ?_⟩
  | refine Or.inl ⟨_, _, _, _, rfl, rfl, (by walk_at "sq"), (by first | rfl | assumption), ?_⟩
  | refine Or.inr (Or.inl ⟨_, _, _, _, rfl, rfl, (by walk_at "sq"), (by first | rfl | assumption), ?_⟩)
  | refine ⟨_, _, rfl, Or.inl ⟨(by walk_at "sq"), ?_⟩⟩
  | refine ⟨rfl, ?_⟩
  | refine iteT ?_
  | refine iteF ?_
  | refine ⟨_, _, _, _, _, rfl, (by assumption), (by assumption), (by assumption), (by assumption), ?_⟩
  | refine Or.inl ⟨_, rfl, ?_⟩
  | refine Or.inr ⟨_, rfl, ?_⟩
  | refine ⟨_, _, rfl, (by walk_at "side"), ?_⟩
  | refine ⟨_, _, rfl, ?_⟩)
local macro_rules | `(tactic| walk_at "fld") => `(tactic| skip)
local macro_rules | `(tactic| walk_at "s") => `(tactic| repeat walk_at "1")
local macro_rules | `(tactic| walk_at "size") => `(tactic| first | exact Nat.le_of_ble_eq_true rfl | (simp only [List.length_map, List.length_append, List.length_cons, List.length_nil]; omega))
local macro_rules | `(tactic| walk_at "new") => `(tactic| (first | refine ⟨(by walk_at "size"), fun p hp => ?_⟩ | refine fun p hp => ?_); (generalize hq : upd _ p _ = H1); (obtain ⟨s, e⟩ := new_facts hp hq); clear hq)
/-! the law -/
open Rw (leO upTo tmR gt cntR Qp ov)
theorem tell_two (t : Int) : CntOf (tmR [none, none] [some 3] 0) t (atL (some (2 : Nat)) [((3, none) : Stp)] [] 0 0 t) := ends_cnt (u := 2) (b := 0) (T := 3) (g := []) (B := 2) (by decide) ⟨by decide, rfl⟩ (by decide) (fun x h => nomatch h) t
theorem tell_unit (t : Int) : CntOf (tmR [] [some 0] 0) t (atL (some (0 : Nat)) [((0, none) : Stp)] [] 0 0 t) := ends_cnt (u := 0) (b := -1) (T := 0) (g := []) (B := 2) (by decide) ⟨by decide, rfl⟩ (by decide) (fun x h => nomatch h) t
theorem can_two : CanT 2 (some (2 : Nat)) [((3, none) : Stp)] [] 0 0 := .ends 2 0 3 [] ⟨by decide, rfl⟩ (by decide) (fun x h => nomatch h) (by decide)
theorem can_unit : CanT 2 (some (0 : Nat)) [((0, none) : Stp)] [] 0 0 := .ends 0 (-1) 0 [] ⟨by decide, rfl⟩ (by decide) (fun x h => nomatch h) (by decide)
theorem shape_two : Rw.ShapeG [none, none] [some 3] 0 := (ends_shape (u := 2) (b := 0) (T := 3) (g := []) (B := 2) (by decide) ⟨by decide, rfl⟩ (by decide) (fun x h => nomatch h)).2.2.1
theorem row_unit : RowK 2 [] [some 0] 0 := by
  have S : Rw.ShapeG [] [some 0] 0 := (ends_shape (u := 0) (b := -1) (T := 0) (g := []) (B := 2) (by decide) ⟨by decide, rfl⟩ (by decide) (fun x h => nomatch h)).2.2.1
  have M : Rw.MadeOf [] [some 0] 0 [] [some 0] 0 := ⟨1, 0, ⟨Nat.le_refl _, Rw.fits_whole (a := [some 0]) (by simp), fun t' h F => by have := F.pos; omega⟩, ⟨Nat.le_refl _, fun n _ h => absurd h (Nat.not_lt_zero n), Or.inl rfl⟩, rfl, rfl, by rw [Int.zero_mul, Int.zero_ediv]⟩
  exact Or.inr (rowM_of S M (by decide)).1
theorem row_none : RowK 1 [] [none] 0 := Or.inl ⟨rfl, rfl, rfl⟩
def spLaw (K : PySem.W.Frag) : Sp := fun vs H Q _ => ∃ (a : Addr) (ns : List Int), vs = [.ref a] ∧ SqL K H a (ns.map V.int) ∧ ns.length ≤ 63 ∧ ∀ H', Q (.bl true) H'
section
variable {P : Program} {w : World} {K : PySem.W.Frag} {mg : Str → Option Value} {base : Heap} {R C D : Addr}
abbrev s_law : Stmt := topS 65
theorem sc_law : FnScope ["script", "k", "box", "turn"] ["script"] (defScope s_law) := ⟨rfl, rfl, rfl, by decide +kernel, rfl, by decide +kernel, by decide +kernel⟩
/-- what a call of a class asks of its __init__ -/
def MkQ (C : Addr) (sp : Sp) (zs : List V) (E : XK) (Q : VK) : List V → Hp → Prop := fun vs H1 => ∀ x dx, H1 x = none → H1 dx = none → dx ≠ x → sp (.ref x :: (vs ++ zs)) (upd (upd H1 dx (.own x)) x (.ins C dx [])) (fun v H2 => v = .non ∧ Q (.ref x) H2) E
theorem go_make {C : Addr} {sp : Sp} {zs : List V} {E : XK} {t : TA} {σ : L2.St} {H : Hp} {Q : VK} (h : t σ H (MkQ C sp zs E Q)) : tMake C sp zs E t σ H Q := h
theorem go_cons {a : TE} {b : TA} {σ : L2.St} {H : Hp} {Q : List V → Hp → Prop} (h : a σ H fun v H1 => b σ H1 fun vs H2 => Q (v :: vs) H2) : tCons a b σ H Q := h
theorem go_tC {v : V} {σ : L2.St} {H : Hp} {Q : VK} (h : Q v H) : tC v σ H Q := h
theorem mk_tal {H : Hp} {v1 v2 : V} {d1 d2 : PyData} {u : Option Int} {fs : List Stp} {as : List Sti} {t m : Int} {Q : VK} {E : XK} (h1 : Dv H v1 d1) (q1 : isSeqD d1 = true) (i1 : itemsD d1 = fs.map stD) (h2 : Dv H v2 d2) (q2 : isSeqD d2 = true) (i2 : itemsD d2 = as.map siD) (lf : fs.length ≤ 1000) (la : as.length ≤ 1000) (W : TalIn u fs as t m)
    (k : ∀ H' p f' a' t' m', Same H H' → H p = none → MadeT fs as t m f' a' t' m' → TalAt C H' p u f' a' t' m' → Q (.ref p) H') : MkQ C (spInitT C D) [] E Q [cV u, v1, v2, .int t, .int m] H := rd_tal h1 q1 i1 h2 q2 i2 lf la W k
theorem mk_rowD {H : Hp} {aF aA : Addr} {f a : List (Option Int)} {Q : VK} {E : XK} (h1 : Rw.SqH H aF (f.map Rw.ov)) (h2 : Rw.SqH H aA (a.map Rw.ov)) (ok : Rw.OkRow f a 0) (lf : f.length < 500) (la : a.length < 500)
    (k : ∀ H' p f' a' m', Same H H' → H p = none → Rw.MadeOf f a 0 f' a' m' → Rw.RowAt R H' p f' a' m' → Q (.ref p) H') : MkQ R (Rw.spInit R) [.int 0] E Q [.ref aF, .ref aA] H := rd_row h1 h2 ok lf la (by decide) (by decide) k
/-- what the law calls -/
structure CallsL (P : Program) (w : World) (K : PySem.W.Frag) (mg : Str → Option Value) (base : Heap) (R C D : Addr) : Prop where
  T : Txt mg
  eR : Rw.RowEq K mg R
  qR : EqR P w K mg base R
  zC : TalCls K C
  eC : TalEq K mg C
  qC : EqT P w K mg base C
  mT : TalMk P w K mg base C D
  mR : RowMk P w K mg base R
  tally : Own P w K mg base "tally" 8 ["row"] (spTally R C)
  goings : Own P w K mg base "goings" 7 ["counts"] (spGoings C R)
  empty : Own P w K mg base "empty" 6 [] (spOne R none)
  unit : Own P w K mg base "unit" 6 [] (spOne R (some 0))
  endless : Own P w K mg base "endless" 7 [] (spEndless C)
  box : Own P w K mg base "_law_box" 1 ["script", "k"] (spBox K)
  line : Own P w K mg base "_law_line" 3 ["box"] spLine
  raw : Own P w K mg base "_law_raw" 3 ["box"] spRaw
  rowR : Own P w K mg base "_law_row_right" 9 ["line"] spRowR
  talR : Own P w K mg base "_law_tally_right" 9 ["raw"] spTallyR
set_option maxHeartbeats 8000000 in
theorem ok_law {fa : Addr} {fd : FuncData} (J : Fun K "law" "law" s_law fa fd) (W : CallsL P w K mg base R C D) : FnOk P w K mg base CX0 10 fa fd ["script"] (spLaw K) := by
  obtain ⟨T, eR, qR, zC, eC, qC, mT, mR, o_tally, o_goings, o_empty, o_unit, o_endless, o_law_box, o_law_line, o_law_raw, o_law_row_right, o_law_tally_right⟩ := W
  refine J.ok sc_law (fun vs H Q E h => ?_) (fun cdv A outer s H vs Q E hr h => ?_)
  · obtain ⟨_, _, rfl, _⟩ := h
    rfl
  · obtain ⟨a, ns, rfl, hSq, hlen, k⟩ := h
    refine ⟨_, (pss_cons (ps_for PassesOwn.never rfl (pi_range1 (by rfl) T.range (pa_cons (pe_callB (call_max2 rfl) (by rfl) T.max (by decide +kernel) (pa_cons pe_int (pa_cons (pe_callB (call_min2 rfl) (by rfl) T.min (by decide +kernel) (pa_cons pe_int (pa_cons (pe_callB call_len_seq (by rfl) T.len PySem.boot_len (pa_cons (pv 0) pa_nil)) pa_nil))) pa_nil))) pa_nil)) (pg_name (i := 1) sc_law.nd rfl (Or.inl rfl))
    (pss_cons (ps_set (i := 2) sc_law.nd rfl (Or.inl rfl) (pe_own o_law_box (hr.mono (by decide)) (pa_cons (pv 0) (pa_cons (pv 1) pa_nil))))
      (pss_one (ps_for PassesOwn.never rfl (pi_range1 (by rfl) T.range (pa_cons pe_int pa_nil)) (pg_name (i := 3) sc_law.nd rfl (Or.inl rfl))
        (pss_one (ps_if (PW.pt (pw_or (pt_not (pt_val (pe_own o_law_row_right (hr.mono (by decide)) (pa_cons (pe_own o_law_line (hr.mono (by decide)) (pa_cons (pv 2) pa_nil)) pa_nil)))) (pw_or1 (pt_not (pt_val (pe_own o_law_tally_right (hr.mono (by decide)) (pa_cons (pe_own o_law_raw (hr.mono (by decide)) (pa_cons (pv 2) pa_nil)) pa_nil)))))))
            (pss_one (ps_ret pe_bl))
            pss_nil))))))
  (pss_cons (ps_if (PW.pt (pw_or (pt_cmpR (op_neT qC eC (hr.mono (by decide))) (pe_own o_tally (hr.mono (by decide)) (pa_cons (pe_own0 o_empty (hr.mono (by decide))) pa_nil)) (pe_own0 o_endless (hr.mono (by decide))) (nomark _)) (pw_or (pt_cmpR (op_neR qR eR (hr.mono (by decide))) (pe_own o_goings (hr.mono (by decide)) (pa_cons (pe_own0 o_endless (hr.mono (by decide))) pa_nil)) (pe_own0 o_empty (hr.mono (by decide))) (nomark _)) (pw_or1 (pt_cmpR op_notN (pe_fld (pe_own0 o_endless (hr.mono (by decide))) rfl) pe_non (nomark _))))))
    (pss_one (ps_ret pe_bl))
    pss_nil)
  (pss_cons (ps_if (pt_cmpR (op_neR qR eR (hr.mono (by decide))) (pe_own o_goings (hr.mono (by decide)) (pa_cons (pe_tal mT (hr.mono (by decide)) (pa_cons pe_int (pa_cons (pe_lst (pa_cons (pe_tup (pa_cons pe_int (pa_cons pe_non pa_nil))) pa_nil)) (pa_cons (pe_lst pa_nil) (pa_cons pe_int (pa_cons pe_int pa_nil)))))) pa_nil)) (pe_rowD mR (hr.mono (by decide)) (pa_cons (pe_lst (pa_cons pe_non (pa_cons pe_non pa_nil))) (pa_cons (pe_lst (pa_cons pe_int pa_nil)) pa_nil))) (nomark _))
    (pss_one (ps_ret pe_bl))
    pss_nil)
  (pss_one (ps_ret (pe_cmpR (op_eqT qC eC (hr.mono (by decide))) (pe_own o_tally (hr.mono (by decide)) (pa_cons (pe_own0 o_unit (hr.mono (by decide))) pa_nil)) (pe_tal mT (hr.mono (by decide)) (pa_cons pe_int (pa_cons (pe_lst (pa_cons (pe_tup (pa_cons pe_int (pa_cons pe_non pa_nil))) pa_nil)) (pa_cons (pe_tup pa_nil) (pa_cons pe_int (pa_cons pe_int pa_nil)))))) (nomark _))))))), ?_⟩
    refine ⟨_, rfl, a, _, rfl, Or.inl hSq, _, _, rfl, _, _, rfl, _, rfl, ?_⟩
    have hN : 1 ≤ (if (if ((ns.map V.int).length : Int) < 2 then ((ns.map V.int).length : Int) else 2) > 1 then (if ((ns.map V.int).length : Int) < 2 then ((ns.map V.int).length : Int) else 2) else 1) ∧ (if (if ((ns.map V.int).length : Int) < 2 then ((ns.map V.int).length : Int) else 2) > 1 then (if ((ns.map V.int).length : Int) < 2 then ((ns.map V.int).length : Int) else 2) else 1) ≤ 2 := by
      split <;> split at * <;> omega
    generalize (if (if ((ns.map V.int).length : Int) < 2 then ((ns.map V.int).length : Int) else 2) > 1 then (if ((ns.map V.int).length : Int) < 2 then ((ns.map V.int).length : Int) else 2) else 1) = N at hN ⊢
    refine ⟨by omega, by omega, for_range (lo := 0) (n := N.toNat) (fun i σ' H' => ∃ y1 y2 y3 : Option V, σ' = [some (.ref a), y1, y2, y3] ∧ Same H H') ⟨none, none, none, rfl, Same.refl _⟩ ?_ ?_⟩
    · rintro i σ' H2 hi ⟨y1, y2, y3, rfl, s2⟩
      rw [Int.zero_add]
      refine ⟨_, rfl, _, rfl, a, ns, i, rfl, s2.seq hSq, hlen, fun H3 b s3 nb hb => ?_⟩
      have nb0 : H b = none := s2.free nb
      refine ⟨_, rfl, by decide, by decide, for_range (lo := 0) (n := 4) (fun j σ' H' => ∃ z3 : Option V, σ' = [some (.ref a), some (.int (i : Nat)), some (.ref b), z3] ∧ Bx b H3 H' ∧ BoxAt H' b) ⟨y3, rfl, Bx.of (Same.refl _), hb⟩ ?_ ?_⟩
      · rintro j σ' H4 hj ⟨z3, rfl, x4, b4⟩
        refine ⟨_, rfl, b, rfl, b4, fun H5 p f a' m D5 x5 b5 L5 => ?_⟩
        refine go_nil ?_
        refine ⟨p, f, a', m, rfl, L5, line_known D5, fun H6 s6 => ⟨true, rfl, ?_⟩⟩
        refine iteF ?_
        refine ⟨_, rfl, b, rfl, b5.same s6, fun H7 v u f a t m D7 x7 b7 _ d7 => ?_⟩
        refine go_nil ?_
        refine ⟨v, u, f, a, t, m, rfl, D7, d7.same off_same, fun H8 s8 => ⟨true, rfl, ?_⟩⟩
        refine iteF ?_
        exact ⟨_, rfl, x4.trans (x5.trans ((Bx.of s6).trans (x7.trans (Bx.of s8)))), b7.same s8⟩
      · rintro σ' H4 ⟨z3, rfl, x4, b4⟩
        exact ⟨_, _, z3, rfl, x4.same (s2.trans s3) nb0⟩
    · rintro σ' H1 ⟨y1, y2, y3, rfl, s2⟩
      clear hSq hN
      refine ⟨rfl, fun H2 e s3 n r2 => ?_⟩
      refine go_nil ?_
      refine rd_tally (B := 1) (by decide) r2 row_none fun H3 c u f b t m s4 n can cnt _ hC => ?_
      refine ⟨rfl, fun H4 c2 s5 n hC4 => ?_⟩
      obtain ⟨rfl, rfl, rfl, rfl, rfl⟩ := (CanT.none (B := 3)).uniq can fun τ => CntOf.fn (empty_cnt τ) (cnt τ)
      refine rd_neT1 eC (hC.same s5) hC4 can.parts ⟨false, rfl, ?_⟩
      refine iteF ?_
      clear hC hC4 s3 s4 s5 r2 can cnt
      refine ⟨rfl, fun H5 c5 s5 n5 hC5 => ?_⟩
      refine go_nil ?_
      refine rd_goings (B := 0) (by decide) hC5 .none fun H6 g f b m s6 n6 rk cnt hR6 => ?_
      refine ⟨rfl, fun H7 e7 s7 n7 r7 => ?_⟩
      obtain ⟨rfl, rfl, rfl⟩ := row_none.uniq rk fun n => row_of_cnt (c := fun τ => atL none [] [] 0 0 τ) empty_cnt cnt n
      refine rd_neRow eR (s7.row hR6) r7 ⟨false, rfl, ?_⟩
      refine iteF ?_
      clear hC5 hR6 r7 s5 s6 s7 rk cnt
      refine ⟨rfl, fun H8 c8 s8 n8 hC8 => ?_⟩
      obtain ⟨dx, pf, pa, xf, xa, h1, _⟩ := id hC8
      refine ⟨c8, C, dx, _, _, rfl, h1, zC.cl, zC.nU, rfl, rfl, _, rfl, ?_⟩
      refine iteF ?_
      clear hC8 h1 s8
      dsimp only [tNext, tSeq, tIfS, tTest, tOp, tCall]
      refine go_cons ?_
      refine go_make ?_
      refine ⟨Nat.le_of_ble_eq_true rfl, fun p1 m1 => ⟨Nat.le_of_ble_eq_true rfl, fun p2 m2 => ⟨Nat.zero_le _, fun p3 m3 => ?_⟩⟩⟩
      generalize hq : upd H8 p1 _ = H9 at *
      obtain ⟨s9, e9⟩ := new_facts m1 hq
      clear hq
      generalize hq : upd H9 p2 _ = H10 at *
      obtain ⟨s10, e10⟩ := new_facts m2 hq
      clear hq
      generalize hq : upd H10 p3 _ = H11 at *
      obtain ⟨s11, e11⟩ := new_facts m3 hq
      clear hq
      refine go_cons ?_
      refine go_tC ?_
      refine go_cons ?_
      refine go_tC ?_
      refine go_nil ?_
      show MkQ C (spInitT C D) [] E0 _ [cV (some ((2 : Nat) : Int)), .ref p2, .ref p3, .int 0, .int 0] H11
      refine mk_tal (u := some (2 : Nat)) (fs := [(3, none)]) (as := []) (t := 0) (m := 0) (d1 := .list [stD (3, none)]) (d2 := .list []) (.lst (s11 _ _ e10) (.cons (pr_dv (x := prO (3, none)) (s11 _ _ (s10 _ _ e9))) .nil) (by decide)) rfl rfl (.lst e11 .nil (by decide)) rfl rfl (by decide) (by decide) (ends_in (lo := 0) (by decide) ⟨by decide, rfl⟩) fun H12 c12 f1 a1 t1 m1' s12 n12 M12 hC12 => ?_
      obtain ⟨rfl, rfl, rfl, rfl⟩ := made_nil M12
      refine go_nil ?_
      refine rd_goings (B := 2) (by decide) hC12 can_two fun H13 g f b m s13 n13 rk cnt hR13 => ?_
      refine go_make ?_
      refine ⟨Nat.le_of_ble_eq_true rfl, fun p4 m4 => ⟨Nat.le_of_ble_eq_true rfl, fun p5 m5 => ?_⟩⟩
      generalize hq : upd H13 p4 _ = H14 at *
      obtain ⟨s14, e14⟩ := new_facts m4 hq
      clear hq
      generalize hq : upd H14 p5 _ = H15 at *
      obtain ⟨s15, e15⟩ := new_facts m5 hq
      clear hq
      refine go_nil ?_
      show MkQ R (Rw.spInit R) [V.int 0] E0 _ [.ref p4, .ref p5] H15
      refine mk_rowD (f := [none, none]) (a := [some 3]) (Or.inl (s15 _ _ e14)) (Or.inl e15) shape_two.ok (by decide) (by decide) fun H16 q f1 a1 m1 s16 n16 M16 hR16 => ?_
      obtain ⟨rm, tm⟩ := rowM_of (B := 3) shape_two M16 (by decide)
      have rk16 : RowK 3 f1 a1 m1 := Or.inr rm
      obtain ⟨rfl, rfl, rfl⟩ := rk.uniq rk16 fun n => (row_of_cnt cnt tell_two n).trans (tm n).symm
      refine rd_neRow eR ((s14.trans (s15.trans s16)).row hR13) hR16 ⟨false, rfl, ?_⟩
      refine iteF ?_
      clear rm tm rk16 rk cnt hR13 hR16 hC12 M12 M16
      refine ⟨rfl, fun H17 e17 s17 n17 r17 => ?_⟩
      refine go_nil ?_
      refine rd_tally (B := 2) (by decide) r17 row_unit fun H18 c u f b t m s18 n18 can cnt _ hC18 => ?_
      obtain ⟨rfl, rfl, rfl, rfl, rfl⟩ := can_unit.uniq can fun τ => CntOf.fn (tell_unit τ) (cnt τ)
      refine go_make ?_
      refine ⟨Nat.le_of_ble_eq_true rfl, fun p1 m1 => ⟨Nat.le_of_ble_eq_true rfl, fun p2 m2 => ⟨Nat.zero_le _, fun p3 m3 => ?_⟩⟩⟩
      generalize hq : upd H18 p1 _ = H19 at *
      obtain ⟨s19, e19⟩ := new_facts m1 hq
      clear hq
      generalize hq : upd H19 p2 _ = H20 at *
      obtain ⟨s20, e20⟩ := new_facts m2 hq
      clear hq
      generalize hq : upd H20 p3 _ = H21 at *
      obtain ⟨s21, e21⟩ := new_facts m3 hq
      clear hq
      refine go_cons ?_
      refine go_tC ?_
      refine go_cons ?_
      refine go_tC ?_
      refine go_nil ?_
      show MkQ C (spInitT C D) [] E0 _ [cV (some ((0 : Nat) : Int)), .ref p2, .ref p3, .int 0, .int 0] H21
      refine mk_tal (u := some (0 : Nat)) (fs := [(0, none)]) (as := []) (t := 0) (m := 0) (d1 := .list [stD (0, none)]) (d2 := .tuple []) (.lst (s21 _ _ e20) (.cons (pr_dv (x := prO (0, none)) (s21 _ _ (s20 _ _ e19))) .nil) (by decide)) rfl rfl (.tup e21 .nil (by decide)) rfl rfl (by decide) (by decide) (ends_in (lo := -1) (by decide) ⟨by decide, rfl⟩) fun H22 c22 f1 a1 t1 m1' s22 n22 M22 hC22 => ?_
      obtain ⟨rfl, rfl, rfl, rfl⟩ := made_nil M22
      exact rd_eqT1 eC (hC18.same (s19.trans (s20.trans (s21.trans s22)))) hC22 can_unit.parts (k _)
end
end My

set_option linter.all false
namespace My
open PySem PySem.Spec PyProof.Rows L2
section
variable {K : PySem.W.Frag} {h : Heap} {mg : Str → Option Value}
theorem df_mk {x : Str} {st : Stmt} {ps : List Str} {f : Addr} {oc : Value} {od an : Option Addr} {osl : Array (Option Value)} {kV doc pm cdv ct : Value} (X : K.In h) (G : h.Ns mainGlobals mg)
    (a : PySem.W.nsIn K mainGlobals x = some (some (.ref f)))
    (l : K.lookup f = some ⟨oc, od, .func (PySem.W.fnOf x x (defArgs st) (defBody st) (defScope st) .none kV doc pm an cdv ct), osl⟩) (c : PySem.W.codeIn K cdv x = true) (k : PySem.W.keepIn K (.ref f) = true)
    (hb : ∀ (kV doc pm : Value) (an : Option Addr) (cdv ct : Value) (us : List Value), us.length = ps.length → bindArgs (PySem.W.fnOf x x (defArgs st) (defBody st) (defScope st) .none kV doc pm an cdv ct) ⟨us, []⟩ = pure (ps.zip us)) : Df K mg x st ps :=
  ⟨f, _, fun_mk l c k, PySem.W.mg_of X G a, (fun_mk l c k).binds hb⟩
/-- a method of the class -/
structure DfM (K : PySem.W.Frag) (C : Addr) (x qual : Str) (st : Stmt) (ps : List Str) : Prop where
  ex : ∃ f fd, Fun K x qual st f fd ∧ Meth K C x f ∧ Binds K fd ps []
theorem dfm_mk {C : Addr} {x qual : Str} {st : Stmt} {ps : List Str} {f : Addr} {oc : Value} {od an : Option Addr} {osl : Array (Option Value)} {kV doc pm cdv ct : Value}
    (a : PySem.W.findIn K (.ref C) x = some (some (.ref f))) (i : PySem.W.isFn K (.ref f) = true)
    (l : K.lookup f = some ⟨oc, od, .func (PySem.W.fnOf x qual (defArgs st) (defBody st) (defScope st) .none kV doc pm an cdv ct), osl⟩) (c : PySem.W.codeIn K cdv qual = true) (k : PySem.W.keepIn K (.ref f) = true)
    (hb : ∀ (kV doc pm : Value) (an : Option Addr) (cdv ct : Value) (us : List Value), us.length = ps.length → bindArgs (PySem.W.fnOf x qual (defArgs st) (defBody st) (defScope st) .none kV doc pm an cdv ct) ⟨us, []⟩ = pure (ps.zip us)) : DfM K C x qual st ps :=
  ⟨f, _, fun_mk l c k, ⟨a, i, k⟩, (fun_mk l c k).binds hb⟩
theorem dfa_mk {x y : Str} {st : Stmt} {ps : List Str} {f : Addr} {oc : Value} {od an : Option Addr} {osl : Array (Option Value)} {kV doc pm cdv ct : Value} (X : K.In h) (G : h.Ns mainGlobals mg)
    (a : PySem.W.nsIn K mainGlobals x = some (some (.ref f)))
    (l : K.lookup f = some ⟨oc, od, .func (PySem.W.fnOf y y (defArgs st) (defBody st) (defScope st) .none kV doc pm an cdv ct), osl⟩) (c : PySem.W.codeIn K cdv y = true) (k : PySem.W.keepIn K (.ref f) = true)
    (hb : ∀ (kV doc pm : Value) (an : Option Addr) (cdv ct : Value) (us : List Value), us.length = ps.length → bindArgs (PySem.W.fnOf y y (defArgs st) (defBody st) (defScope st) .none kV doc pm an cdv ct) ⟨us, []⟩ = pure (ps.zip us)) : DfA K mg x y st ps :=
  ⟨f, _, fun_mk l c k, PySem.W.mg_of X G a, (fun_mk l c k).binds hb⟩
structure DfP (K : PySem.W.Frag) (C : Addr) (x qual : Str) (st : Stmt) (ps : List Str) : Prop where
  ex : ∃ p f fd, Fun K x qual st f fd ∧ PropOf K C x p f ∧ Binds K fd ps []
theorem dfp_mk {C p : Addr} {x qual : Str} {st : Stmt} {ps : List Str} {f : Addr} {rest : List Value} {oc : Value} {od an : Option Addr} {osl : Array (Option Value)} {kV doc pm cdv ct : Value}
    (a : PySem.W.findIn K (.ref C) x = some (some (.ref p))) (g : PySem.W.specialIn K (.ref p) "__get__" = some (some (.builtin "property.__get__"))) (t : PySem.W.takesIn K (.ref p) = some true) (r : PySem.W.recIn K p "property" = some (.ref f :: rest))
    (l : K.lookup f = some ⟨oc, od, .func (PySem.W.fnOf x qual (defArgs st) (defBody st) (defScope st) .none kV doc pm an cdv ct), osl⟩) (c : PySem.W.codeIn K cdv qual = true) (k : PySem.W.keepIn K (.ref f) = true)
    (hb : ∀ (kV doc pm : Value) (an : Option Addr) (cdv ct : Value) (us : List Value), us.length = ps.length → bindArgs (PySem.W.fnOf x qual (defArgs st) (defBody st) (defScope st) .none kV doc pm an cdv ct) ⟨us, []⟩ = pure (ps.zip us)) : DfP K C x qual st ps :=
  ⟨p, f, _, fun_mk l c k, ⟨a, g, t, rest, r⟩, (fun_mk l c k).binds hb⟩
/-- the class of tallies with its __init__ -/
structure DfI (K : PySem.W.Frag) (mg : Str → Option Value) (C : Addr) : Prop where
  ex : ∃ f fd, Fun K "__init__" "Tally.__init__" s_Tally_init f fd ∧ Mk K C f ∧ mg "Tally" = some (.ref C) ∧ Binds K fd ["self", "under", "first", "again", "turn", "more"] []
theorem dfi_mk {C : Addr} {f : Addr} {oc : Value} {od an : Option Addr} {osl : Array (Option Value)} {kV doc pm cdv ct : Value} (X : K.In h) (G : h.Ns mainGlobals mg)
    (aC : PySem.W.nsIn K mainGlobals "Tally" = some (some (.ref C))) (a : PySem.W.findIn K (.ref C) "__init__" = some (some (.ref f))) (i : PySem.W.isFn K (.ref f) = true) (mk : PySem.W.makesIn K C = true) (kc : PySem.W.keepIn K (.ref C) = true)
    (l : K.lookup f = some ⟨oc, od, .func (PySem.W.fnOf "__init__" "Tally.__init__" (defArgs s_Tally_init) (defBody s_Tally_init) (defScope s_Tally_init) .none kV doc pm an cdv ct), osl⟩)
    (c : PySem.W.codeIn K cdv "Tally.__init__" = true) (k : PySem.W.keepIn K (.ref f) = true) : DfI K mg C :=
  ⟨f, _, fun_mk (st := s_Tally_init) l c k, ⟨mk, a, i, kc⟩, PySem.W.mg_of X G aC, (fun_mk (st := s_Tally_init) l c k).binds (fun _ _ _ _ _ _ us hl => match us, hl with | [_, _, _, _, _, _], _ => rfl)⟩
theorem rc_mk {C : Addr} (pg : PySem.W.plainGet K C Str.empty = true) (hd : PySem.W.hasDictIn K C = true) (po : PySem.W.plainOver K C = true) (sa : PySem.W.findIn K (.ref C) "__setattr__" = some (some (.builtin "object.__setattr__")))
    (n0 : PySem.W.findIn K (.ref C) "under" = some none) (n1 : PySem.W.findIn K (.ref C) "first" = some none) (n2 : PySem.W.findIn K (.ref C) "again" = some none) (n3 : PySem.W.findIn K (.ref C) "turn" = some none) (n4 : PySem.W.findIn K (.ref C) "more" = some none) : TalCls K C := ⟨⟨pg, hd, po, sa⟩, n0, n1, n2, n3, n4⟩
/-- the class of rows with its __init__, which has one default -/
structure DfIr (K : PySem.W.Frag) (mg : Str → Option Value) (C : Addr) : Prop where
  ex : ∃ f fd ds, FunD K "__init__" "Row.__init__" (defArgs Rw.s_Row_init) (defBody Rw.s_Row_init) (defScope Rw.s_Row_init) [.int 0] [] f fd ∧ Mk K C f ∧ mg "Row" = some (.ref C) ∧ Binds K fd ["self", "first", "again", "more"] [] ∧ Binds K fd ["self", "first", "again", "more"] ds ∧ Vals [.int 0] ds
theorem dfir_mk {C Td : Addr} {u : Value} {f : Addr} {oc : Value} {od an : Option Addr} {osl : Array (Option Value)} {kV doc pm cdv ct : Value} {o : Obj} {n : Nat} (X : K.In h) (G : h.Ns mainGlobals mg)
    (aC : PySem.W.nsIn K mainGlobals "Row" = some (some (.ref C))) (a : PySem.W.findIn K (.ref C) "__init__" = some (some (.ref f))) (i : PySem.W.isFn K (.ref f) = true) (mk : PySem.W.makesIn K C = true) (kc : PySem.W.keepIn K (.ref C) = true)
    (l : K.lookup f = some ⟨oc, od, .func (PySem.W.fnOf "__init__" "Row.__init__" (defArgs Rw.s_Row_init) (defBody Rw.s_Row_init) (defScope Rw.s_Row_init) (.ref Td) kV doc pm an cdv ct), osl⟩) (lT : K.lookup Td = some o) (oT : o.data = .seq [u].toArray n) (ru : RelV (.int 0) u)
    (c : PySem.W.codeIn K cdv "Row.__init__" = true) (k : PySem.W.keepIn K (.ref f) = true) : DfIr K mg C := by
  have F : FunD K "__init__" "Row.__init__" (defArgs Rw.s_Row_init) (defBody Rw.s_Row_init) (defScope Rw.s_Row_init) [.int 0] [] f (PySem.W.fnOf "__init__" "Row.__init__" (defArgs Rw.s_Row_init) (defBody Rw.s_Row_init) (defScope Rw.s_Row_init) (.ref Td) kV doc pm an cdv ct) :=
    ⟨⟨oc, od, .ref Td, kV, doc, pm, an, cdv, ct, osl, rfl, l, c, Or.inr ⟨by simp, Td, o, [u], n, rfl, lT, oT, .cons ru .nil⟩, Or.inl rfl⟩, k⟩
  obtain ⟨ds, v, b⟩ := F.binds1 (ps := ["self", "first", "again", "more"]) 4 1 (by simp) (by simp) (fun _ _ _ _ _ _ _ us its hl h1 => match us, hl, its, h1 with | [_, _, _, _], _, [_], _ => ⟨_, rfl, rfl⟩)
  cases v
  obtain ⟨ds1, v1, b1⟩ := F.binds1 (ps := ["self", "first", "again", "more"]) 3 0 (by simp) (by simp) (fun _ _ _ _ _ _ _ us its hl h1 => match us, hl, its, h1 with | [_, _, _], _, [_], _ => ⟨_, rfl, rfl⟩)
  exact ⟨f, _, ds1, F, ⟨mk, a, i, kc⟩, PySem.W.mg_of X G aC, b, b1, v1⟩
theorem rr_mk {C : Addr} (pg : PySem.W.plainGet K C Str.empty = true) (hd : PySem.W.hasDictIn K C = true) (po : PySem.W.plainOver K C = true) (sa : PySem.W.findIn K (.ref C) "__setattr__" = some (some (.builtin "object.__setattr__")))
    (n0 : PySem.W.findIn K (.ref C) "first" = some none) (n1 : PySem.W.findIn K (.ref C) "again" = some none) (n2 : PySem.W.findIn K (.ref C) "more" = some none) : Rw.RowCls K mg C := ⟨⟨pg, hd, po, sa⟩, n0, n1, n2⟩
/-- the class of an error with its __init__ -/
structure DfE (K : PySem.W.Frag) (mg : Str → Option Value) (x f q : Str) (st : Stmt) (D : Addr) : Prop where
  ex : ∃ fI fd, OexC K D ∧ PySem.W.findIn K (.ref D) "__init__" = some (some (.ref fI)) ∧ PySem.W.typeIn K (.ref fI) = some (.type "function") ∧ Fun K "__init__" q st fI fd ∧ Binds K fd ["self", f] [] ∧ mg x = some (.ref D)
theorem dfe_mk {x fl qu : Str} {st : Stmt} {D W f : Addr} {nm q : Str} {N : Addr} {bs : List Value} {sn : List Str} {sub : List Value} {ab : Bool} {col : Option Bool} {dd : Option Addr} {k0 k1 k2 k3 k5 : Option Value} {oc : Value} {od an : Option Addr} {osl : Array (Option Value)} {kV doc pm cdv ct : Value} (X : K.In h) (G : h.Ns mainGlobals mg)
    (aD : PySem.W.nsIn K mainGlobals x = some (some (.ref D)))
    (xL : K.lookup D = some (excClassObj nm q D N bs [.ref W, .type "ValueError", .type "Exception", .type "BaseException", .type "object"] true sn sub ab col dd k0 k1 k2 k3 k5 "ValueError.__new__"))
    (sa : PySem.W.findIn K (.ref D) "__setattr__" = some (some (.builtin "object.__setattr__"))) (eC : PySem.W.subIn K (.ref D) (.type "BaseException") = some true) (tC : PySem.W.typeIn K (.ref D) = some (.type "type")) (kC : PySem.W.keepIn K (.ref D) = true)
    (a1 : PySem.W.findIn K (.ref D) "__init__" = some (some (.ref f))) (t1 : PySem.W.typeIn K (.ref f) = some (.type "function"))
    (l : K.lookup f = some ⟨oc, od, .func (PySem.W.fnOf "__init__" qu (defArgs st) (defBody st) (defScope st) .none kV doc pm an cdv ct), osl⟩) (c : PySem.W.codeIn K cdv qu = true) (k : PySem.W.keepIn K (.ref f) = true)
    (hb : ∀ (kV doc pm : Value) (an : Option Addr) (cdv ct : Value) (us : List Value), us.length = (["self", fl] : List Str).length → bindArgs (PySem.W.fnOf "__init__" qu (defArgs st) (defBody st) (defScope st) .none kV doc pm an cdv ct) ⟨us, []⟩ = pure ((["self", fl] : List Str).zip us)) : DfE K mg x fl qu st D :=
  ⟨f, _, ⟨⟨nm, q, N, bs, _, sn, sub, ab, col, dd, k0, k1, k2, k3, k5, xL, rfl⟩, sa, eC, tC, kC⟩, a1, t1, fun_mk l c k, (fun_mk (st := st) l c k).binds hb, PySem.W.mg_of X G aD⟩
end
theorem sub_tyno {K : PySem.W.Frag} {C : Addr} {T : String} (e : fastBuiltinMro T = some [.type T, .type "object"]) : PySem.W.subIn K (.type T) (.ref C) = some false := by
  show (fastBuiltinMro T).map (·.contains (.ref C)) = some false
  rw [e]
  first
    | rfl
    | simp
theorem kit_tyno {K : PySem.W.Frag} {M : Addr} {T : String} (cM : PySem.W.isClsIn K M = true) (tM : PySem.W.typeIn K (.ref M) = some (.type "type")) (s : PySem.W.subIn K (.type T) (.ref M) = some false) : PySem.W.kitOne K (.type T) (.ref M) = some false := by
  have cM' : (PySem.W.clsIn K M).isSome = true := cM
  unfold PySem.W.kitOne
  rw [if_neg (fun q => by cases beq_iff_eq.mp q)]
  show (if ((PySem.W.clsIn K M).isSome && PySem.W.typeIn K (.ref M) == some (.type "type")) = true then PySem.W.subIn K (.type T) (.ref M) else none) = some false
  rw [if_pos (by rw [cM', tM]; rfl)]
  exact s
theorem kit_self {K : PySem.W.Frag} {M : Addr} : PySem.W.kitOne K (.ref M) (.ref M) = some true := by
  unfold PySem.W.kitOne
  rw [if_pos (by simp)]
theorem notFirst_ty {K : PySem.W.Frag} {C : Addr} {T : String} (e : fastBuiltinMro T = some [.type T, .type "object"]) : PySem.W.notFirst K C (.type T) = true := by
  unfold PySem.W.notFirst
  rw [sub_tyno e]
  simp
theorem all_ok {P : Program} {w : World} {K : PySem.W.Frag} {mg : Str → Option Value} {C R D fa : Addr} (disinteger : Df K mg "is_integer" s_is_integer ["value"]) (disnumber : Df K mg "is_number" s_is_number ["value"]) (dissequence : Df K mg "is_sequence" s_is_sequence ["value"]) (distupleof : Df K mg "is_tuple_of" s_is_tuple_of ["value", "many"]) (dinlowestterms : Df K mg "in_lowest_terms" s_in_lowest_terms ["top", "bottom"]) (dunit : Df K mg "unit" s_unit []) (dempty : Df K mg "empty" s_empty []) (dnothings : Df K mg "nothings" s_nothings ["row"]) (dleastform : Df K mg "least_form" s_least_form ["first", "again", "turn", "more"]) (dmoved : Df K mg "_moved" s_moved ["steps", "lasts", "grow"]) (dtoldby : Df K mg "told_by" s_told_by ["steps", "time"]) (dlastby : Df K mg "_last_by" s_last_by ["steps", "time"]) (disstep : Df K mg "_is_step" s_is_step ["step"]) (disendlessstep : Df K mg "_is_endless_step" s_is_endless_step ["step"]) (drise : Df K mg "_rise" s_rise ["steps"]) (dendless : Df K mg "endless" s_endless []) (dtally : Df K mg "tally" s_tally ["row"]) (dunlike : Df K mg "_unlike" s_unlike ["things"]) (dgoings : Df K mg "goings" s_goings ["counts"]) (dlawbox : Df K mg "_law_box" s_law_box ["script", "k"]) (dlawtake : Df K mg "_law_take" s_law_take ["box", "many"]) (dlawpick : Df K mg "_law_pick" s_law_pick ["box", "some"]) (dlawsteps : Df K mg "_law_steps" s_law_steps ["box", "time", "count", "many"]) (dlawraw : Df K mg "_law_raw" s_law_raw ["box"]) (dlawat : Df K mg "_law_at" s_law_at ["raw", "time"]) (dlawmade : Df K mg "_law_made" s_law_made ["raw"]) (dlawline : Df K mg "_law_line" s_law_line ["box"]) (dlawrow : Df K mg "_law_row" s_law_row ["line"]) (dlawisless : Df K mg "_law_is_less" s_law_is_less ["one", "other"]) (dlawleasttime : Df K mg "_law_least_time" s_law_least_time ["raw", "n"]) (dlawrowright : Df K mg "_law_row_right" s_law_row_right ["line"]) (dlawtallyright : Df K mg "_law_tally_right" s_law_tally_right ["raw"]) (drises : Df K mg "_rises" Rw.s_rises ["things"]) (dalllater : Df K mg "all_later" Rw.s_all_later ["things", "lasts"]) (dshortestturn : Df K mg "_shortest_turn" Rw.s_shortest_turn ["again", "more"]) (disempty : Df K mg "is_empty" Rw.s_is_empty ["row"]) (dlawtime : Df K mg "_law_time" Rw.s_law_time ["line", "n"]) (dlawcount : Df K mg "_law_count" Rw.s_law_count ["line", "time"]) (dWc : DfA K mg "wrong_argument_counts" "_wrong_argument" s_wrong_argument ["under", "first", "again", "turn", "more"]) (dWr : DfA K mg "wrong_argument_rows" "_wrong_argument" Rw.s_wrong_argument ["first", "again", "more"]) (dSs : DfA K mg "shortest_first_steps" "_shortest_first" s_shortest_first ["first", "again", "turn", "more"]) (dSr : DfA K mg "shortest_first_rows" "_shortest_first" Rw.s_shortest_first ["things", "begin", "turn", "grow"]) (dI : DfI K mg C) (dIr : DfIr K mg R) (dET : DfE K mg "InvalidTally" "word" "InvalidTally.__init__" s_IY_init D) (dPc : DfP K C "rate" "Tally.rate" s_Tally_rate ["self"]) (dPr : DfP K R "rate" "Row.rate" Rw.s_Row_rate ["self"]) (mCby : DfM K C "by" "Tally.by" s_Tally_by ["self", "time"]) (mCeq : DfM K C "__eq__" "Tally.__eq__" s_Tally_eq ["self", "other"]) (mRtime : DfM K R "time" "Row.time" Rw.s_Row_time ["self", "n"]) (mRcount : DfM K R "count" "Row.count" Rw.s_Row_count ["self", "time"]) (mReq : DfM K R "__eq__" "Row.__eq__" Rw.s_Row_eq ["self", "other"]) (tx : Txt mg) (gGc : mg "gcd" = some (.builtin "math.gcd")) (rc : TalCls K C) (rr : Rw.RowCls K mg R) (gT : mg "Tally" = some (.ref C)) (gRo : mg "Row" = some (.ref R)) (haC : PySem.W.findIn K (.ref C) "__class__" = some (some (.builtin "object.__class__"))) (hmC : PySem.W.mroIn K C (.type "object") = some true) (zneC : PySem.W.findIn K (.ref C) "__ne__" = some (some (.builtin "object.__ne__"))) (icC : PySem.W.isClsIn K C = true) (tcC : PySem.W.typeIn K (.ref C) = some (.type "type")) (haR : PySem.W.findIn K (.ref R) "__class__" = some (some (.builtin "object.__class__"))) (hmR : PySem.W.mroIn K R (.type "object") = some true) (zneR : PySem.W.findIn K (.ref R) "__ne__" = some (some (.builtin "object.__ne__"))) (icR : PySem.W.isClsIn K R = true) (tcR : PySem.W.typeIn K (.ref R) = some (.type "type")) (zhn : PySem.W.specialIn K (.builtin "object.__class__") "__get__" = some (some (.builtin "getset_descriptor.__get__"))) (zht : PySem.W.takesIn K (.builtin "object.__class__") = some true) (nwD : PySem.W.findIn K (.ref D) "word" = some none) {fd : FuncData} (F : Fun K "law" "law" s_law fa fd) (base : Heap) : FnOk P w K mg base CX0 10 fa fd ["script"] (spLaw K) := by
  have T := tx
  have TR : Rw.Txt mg := ⟨T.int, T.len, T.abs, T.bool, T.list, T.tuple, T.range, T.isinstance, T.divmod, T.max, T.min, T.repr⟩
  have Z0 : TalEq K mg C := ⟨gT, fun H a dx fs h => .base (.ins h rc.cl haC zhn zht hmC), kit_self, kit_tyno icC tcC (sub_tyno (by decide +kernel)), by unfold PySem.W.notFirst; simp, notFirst_ty (by decide +kernel), zneC, hmC⟩
  have ZR : Rw.RowEq K mg R := ⟨gRo, fun H a dx fs h => .base (.ins h rr.cl haR zhn zht hmR), kit_self, kit_tyno icR tcR (sub_tyno (by decide +kernel)), kit_tyno icR tcR (sub_tyno (by decide +kernel)), by unfold PySem.W.notFirst; simp, notFirst_ty (by decide +kernel), notFirst_ty (by decide +kernel), zneR, hmR⟩
  obtain ⟨fE, fdE, hE1, hE2, hE3, FE, hE4, gIT⟩ := dET.ex
  have XE : ErrT P w K mg base D (spErr D) := ⟨fE, fdE, hE1, hE2, hE3, ok_err FE hE1 nwD, hE4, gIT⟩
  have o1 := ok_is_integer (P := P) (w := w) (base := base) disinteger T
  have o2 := ok_is_number disnumber o1
  have o3 := ok_is_sequence (P := P) (w := w) (base := base) dissequence T
  have o4 := ok_is_tuple_of (P := P) (w := w) (base := base) distupleof T
  have o5 := ok_is_step disstep o4 o1 o2
  have o6 := ok_is_endless_step disendlessstep o4 o1
  have o7 := ok_rise (P := P) (w := w) (base := base) drise T
  have oW := ok_wrong dWc T o2 o3 o5 o6 o7
  have oM := ok_moved (P := P) (w := w) (base := base) dmoved
  have oS := ok_shortest_first dSs T oM
  have oL := ok_least_form dleastform T oM oS
  have oLb := ok_last_by (P := P) (w := w) (base := base) dlastby T
  have oTb := ok_told_by dtoldby T rc oLb
  have oLo := ok_low (P := P) (w := w) (base := base) dinlowestterms gGc
  have oMk : TalMk P w K mg base C D := by
    obtain ⟨f1, fd1, F1, M1, mC, b1⟩ := dI.ex
    exact ⟨f1, fd1, ok_init F1 rc XE oW oL, mC, M1, b1⟩
  have oRaC : Prp P w K mg base C "rate" 2 ["self"] (spRate C) := by
    obtain ⟨p, f, fd, F2, pr, b⟩ := dPc.ex
    exact ⟨p, f, fd, ok_rate F2 rc T oLo, pr, b⟩
  have oBy : Mth P w K mg base C "by" 3 ["self", "time"] (spTold C) := by
    obtain ⟨fB, fdB, FB, MB, bB⟩ := mCby.ex
    exact ⟨fB, fdB, ok_by FB oTb, MB, bB⟩
  have oEqC : EqT P w K mg base C := by
    obtain ⟨f, fd, F2, ⟨a, i, k⟩, b⟩ := mCeq.ex
    exact ⟨f, fd, ok_eq F2 rc T Z0, a, i, b⟩
  have p1 := Rw.ok_is_integer (P := P) (w := w) (base := base) disinteger TR
  have p2 := Rw.ok_is_number disnumber p1
  have p3 := Rw.ok_is_sequence (P := P) (w := w) (base := base) dissequence TR
  have p4 := Rw.ok_rises drises p1
  have p5 := Rw.ok_wrong dWr TR p2 p3 p4
  have p6 := Rw.ok_all_later (P := P) (w := w) (base := base) dalllater
  have p7 := Rw.ok_shortest_turn dshortestturn TR p6
  have p8 := Rw.ok_shortest_first dSr p6
  have oRk : RowMk P w K mg base R := by
    obtain ⟨f, fd, ds, F2, M2, m2, b0, b1, v⟩ := dIr.ex
    exact ⟨f, fd, ds, Rw.ok_init F2 rr TR p5 p7 p8, m2, M2, b0, b1, v⟩
  have oEm := Rw.ok_is_empty (P := P) (w := w) (base := base) disempty rr
  have pLo := Rw.ok_low (P := P) (w := w) (base := base) dinlowestterms gGc
  have oRaR : Prp P w K mg base R "rate" 2 ["self"] (Rw.spRate R) := by
    obtain ⟨p, f, fd, F2, pr, b⟩ := dPr.ex
    exact ⟨p, f, fd, Rw.ok_rate F2 rr TR pLo, pr, b⟩
  have oTi : Mth P w K mg base R "time" 1 ["self", "n"] (Rw.spTime R) := by
    obtain ⟨f, fd, F2, M2, b⟩ := mRtime.ex
    exact ⟨f, fd, Rw.ok_time F2 rr TR, M2, b⟩
  have oCo : Mth P w K mg base R "count" 2 ["self", "time"] (Rw.spCount R) := by
    obtain ⟨f, fd, F2, M2, b⟩ := mRcount.ex
    exact ⟨f, fd, Rw.ok_count F2 rr TR oEm, M2, b⟩
  have oEqR : EqR P w K mg base R := by
    obtain ⟨f, fd, F2, ⟨a, i, k⟩, b⟩ := mReq.ex
    exact ⟨f, fd, Rw.ok_eq F2 rr TR ZR, a, i, b⟩
  have oEn := ok_endless dendless oMk
  have oUn := ok_unit dunit oRk
  have oEy := ok_empty dempty oRk
  have oNo := ok_nothings (P := P) (w := w) (base := base) dnothings T rr
  have oUl := ok_unlike (P := P) (w := w) (base := base) dunlike T
  have oTa := ok_tally dtally T rr oMk oEm oEn oUl oNo oCo
  have oGo := ok_goings dgoings T rc oRk oEy
  have oT := ok_take (P := P) (w := w) (base := base) dlawtake T
  have oP := ok_pick dlawpick T oT
  have oSt := ok_steps dlawsteps T oT
  have oR := ok_raw dlawraw oT oSt
  have oA := ok_at (P := P) (w := w) (base := base) dlawat T
  have oMd := ok_made dlawmade oMk
  have oLi := ok_line dlawline T oT oP
  have oLt := Rw.ok_law_time (P := P) (w := w) (base := base) dlawtime TR T.int
  have oLc := Rw.ok_law_count dlawcount TR oLt
  have oLr := ok_law_row dlawrow oRk
  have oIl := ok_is_less (P := P) (w := w) (base := base) dlawisless
  have oLe := ok_least_time dlawleasttime oIl oA
  have oRr := ok_row_right (D := D) dlawrowright ⟨T, rr, ZR, oEqR, rc, Z0, oEqC, oTa, oGo, oBy, oRaC, oTi, oRaR, oLr, oLc⟩
  have oTr := ok_tally_right (D := D) dlawtallyright ⟨T, rr, ZR, oEqR, rc, Z0, oEqC, oTa, oGo, oTi, oMd, oLe⟩
  exact ok_law F ⟨T, ZR, oEqR, rc, Z0, oEqC, oMk, oRk, oTa.own, oGo.own, oEy, oUn, oEn, ok_box dlawbox T, oLi, oR, oRr, oTr⟩
theorem end_mk {P : Program} {w : World} {K : PySem.W.Frag} {h : Heap} {mg : Str → Option Value} {C R D fa f : Addr} (X : K.In h) (G : h.Ns mainGlobals mg) (hfa : mg "law" = some (.ref fa))
    {oc : Value} {od an : Option Addr} {osl : Array (Option Value)} {kV doc pm cdv ct : Value}
    (a : PySem.W.nsIn K mainGlobals "law" = some (some (.ref f))) (l : K.lookup f = some ⟨oc, od, .func (PySem.W.fnOf "law" "law" (defArgs s_law) (defBody s_law) (defScope s_law) .none kV doc pm an cdv ct), osl⟩) (c : PySem.W.codeIn K cdv "law" = true) (k : PySem.W.keepIn K (.ref f) = true)
    (disinteger : Df K mg "is_integer" s_is_integer ["value"]) (disnumber : Df K mg "is_number" s_is_number ["value"]) (dissequence : Df K mg "is_sequence" s_is_sequence ["value"]) (distupleof : Df K mg "is_tuple_of" s_is_tuple_of ["value", "many"]) (dinlowestterms : Df K mg "in_lowest_terms" s_in_lowest_terms ["top", "bottom"]) (dunit : Df K mg "unit" s_unit []) (dempty : Df K mg "empty" s_empty []) (dnothings : Df K mg "nothings" s_nothings ["row"]) (dleastform : Df K mg "least_form" s_least_form ["first", "again", "turn", "more"]) (dmoved : Df K mg "_moved" s_moved ["steps", "lasts", "grow"]) (dtoldby : Df K mg "told_by" s_told_by ["steps", "time"]) (dlastby : Df K mg "_last_by" s_last_by ["steps", "time"]) (disstep : Df K mg "_is_step" s_is_step ["step"]) (disendlessstep : Df K mg "_is_endless_step" s_is_endless_step ["step"]) (drise : Df K mg "_rise" s_rise ["steps"]) (dendless : Df K mg "endless" s_endless []) (dtally : Df K mg "tally" s_tally ["row"]) (dunlike : Df K mg "_unlike" s_unlike ["things"]) (dgoings : Df K mg "goings" s_goings ["counts"]) (dlawbox : Df K mg "_law_box" s_law_box ["script", "k"]) (dlawtake : Df K mg "_law_take" s_law_take ["box", "many"]) (dlawpick : Df K mg "_law_pick" s_law_pick ["box", "some"]) (dlawsteps : Df K mg "_law_steps" s_law_steps ["box", "time", "count", "many"]) (dlawraw : Df K mg "_law_raw" s_law_raw ["box"]) (dlawat : Df K mg "_law_at" s_law_at ["raw", "time"]) (dlawmade : Df K mg "_law_made" s_law_made ["raw"]) (dlawline : Df K mg "_law_line" s_law_line ["box"]) (dlawrow : Df K mg "_law_row" s_law_row ["line"]) (dlawisless : Df K mg "_law_is_less" s_law_is_less ["one", "other"]) (dlawleasttime : Df K mg "_law_least_time" s_law_least_time ["raw", "n"]) (dlawrowright : Df K mg "_law_row_right" s_law_row_right ["line"]) (dlawtallyright : Df K mg "_law_tally_right" s_law_tally_right ["raw"]) (drises : Df K mg "_rises" Rw.s_rises ["things"]) (dalllater : Df K mg "all_later" Rw.s_all_later ["things", "lasts"]) (dshortestturn : Df K mg "_shortest_turn" Rw.s_shortest_turn ["again", "more"]) (disempty : Df K mg "is_empty" Rw.s_is_empty ["row"]) (dlawtime : Df K mg "_law_time" Rw.s_law_time ["line", "n"]) (dlawcount : Df K mg "_law_count" Rw.s_law_count ["line", "time"]) (dWc : DfA K mg "wrong_argument_counts" "_wrong_argument" s_wrong_argument ["under", "first", "again", "turn", "more"]) (dWr : DfA K mg "wrong_argument_rows" "_wrong_argument" Rw.s_wrong_argument ["first", "again", "more"]) (dSs : DfA K mg "shortest_first_steps" "_shortest_first" s_shortest_first ["first", "again", "turn", "more"]) (dSr : DfA K mg "shortest_first_rows" "_shortest_first" Rw.s_shortest_first ["things", "begin", "turn", "grow"]) (dI : DfI K mg C) (dIr : DfIr K mg R) (dET : DfE K mg "InvalidTally" "word" "InvalidTally.__init__" s_IY_init D) (dPc : DfP K C "rate" "Tally.rate" s_Tally_rate ["self"]) (dPr : DfP K R "rate" "Row.rate" Rw.s_Row_rate ["self"]) (mCby : DfM K C "by" "Tally.by" s_Tally_by ["self", "time"]) (mCeq : DfM K C "__eq__" "Tally.__eq__" s_Tally_eq ["self", "other"]) (mRtime : DfM K R "time" "Row.time" Rw.s_Row_time ["self", "n"]) (mRcount : DfM K R "count" "Row.count" Rw.s_Row_count ["self", "time"]) (mReq : DfM K R "__eq__" "Row.__eq__" Rw.s_Row_eq ["self", "other"]) (tx : Txt mg) (gGc : mg "gcd" = some (.builtin "math.gcd")) (rc : TalCls K C) (rr : Rw.RowCls K mg R) (gT : mg "Tally" = some (.ref C)) (gRo : mg "Row" = some (.ref R)) (haC : PySem.W.findIn K (.ref C) "__class__" = some (some (.builtin "object.__class__"))) (hmC : PySem.W.mroIn K C (.type "object") = some true) (zneC : PySem.W.findIn K (.ref C) "__ne__" = some (some (.builtin "object.__ne__"))) (icC : PySem.W.isClsIn K C = true) (tcC : PySem.W.typeIn K (.ref C) = some (.type "type")) (haR : PySem.W.findIn K (.ref R) "__class__" = some (some (.builtin "object.__class__"))) (hmR : PySem.W.mroIn K R (.type "object") = some true) (zneR : PySem.W.findIn K (.ref R) "__ne__" = some (some (.builtin "object.__ne__"))) (icR : PySem.W.isClsIn K R = true) (tcR : PySem.W.typeIn K (.ref R) = some (.type "type")) (zhn : PySem.W.specialIn K (.builtin "object.__class__") "__get__" = some (some (.builtin "getset_descriptor.__get__"))) (zht : PySem.W.takesIn K (.builtin "object.__class__") = some true) (nwD : PySem.W.findIn K (.ref D) "word" = some none) :
    ∃ fd : FuncData, (∀ (s : Shared) (v : Value), BindsTo s fd ⟨[v], []⟩ [("script", v)]) ∧ ∀ base : Heap, K.In base → base.Ns mainGlobals mg → FnOk P w K mg base CX0 10 fa fd ["script"] (spLaw K) := by
  have e := hfa.symm.trans (PySem.W.mg_of X G a)
  cases e
  exact ⟨_, fun s v => .of_eq rfl, fun base _ _ => all_ok disinteger disnumber dissequence distupleof dinlowestterms dunit dempty dnothings dleastform dmoved dtoldby dlastby disstep disendlessstep drise dendless dtally dunlike dgoings dlawbox dlawtake dlawpick dlawsteps dlawraw dlawat dlawmade dlawline dlawrow dlawisless dlawleasttime dlawrowright dlawtallyright drises dalllater dshortestturn disempty dlawtime dlawcount dWc dWr dSs dSr dI dIr dET dPc dPr mCby mCeq mRtime mRcount mReq tx gGc rc rr gT gRo haC hmC zneC icC tcC haR hmR zneR icR tcR zhn zht nwD (fun_mk (st := s_law) l c k) base⟩
end My

/-! repr of deep things, in a def that is called where no repr is under way -/
namespace MyG
open PySem PySem.Spec PyProof.Rows L2
/-- a def's promise where no repr is under way -/
structure FnG (P : Program) (w : World) (K : PySem.W.Frag) (mg : Str → Option Value) (base : Heap) (k : Nat) (f : Addr) (fd : FuncData) (ps : List Str) (sp : Sp) : Prop where
  len : ∀ vs H Q E, sp vs H Q E → vs.length = ps.length
  run : ∀ (A : Around) (outer : List Env) (s : Shared) (H : Hp) (args : Args) (us : List Value) (vs : List V) (Q : VK) (E : XK), Room k A → A.guards = some [] → Env0 P w K mg base A outer s H →
    BindsTo s fd args (ps.zip us) → Vals vs us → sp vs H Q E → codeAny (model P w) A (.call (.ref f) args) (CR CX0 outer P w H s Q E) s
section
variable {P : Program} {w : World} {K : PySem.W.Frag} {mg : Str → Option Value} {base : Heap}
theorem okG {x qual : Str} {st : Stmt} {f : Addr} {fd : FuncData} {N ps : List Str} {k : Nat} {sp : Sp} (D : Fun K x qual st f fd) (S : FnScope N ps (defScope st)) (len : ∀ vs H Q E, sp vs H Q E → vs.length = ps.length)
    (go : ∀ (cdv : Value) (A : Around) (outer : List Env) (s : Shared) (H : Hp) (vs : List V) (Q : VK) (E : XK), Room k (A.deeper (envOfC qual (defScope st) s.heap.objs.size f cdv)) → (A.deeper (envOfC qual (defScope st) s.heap.objs.size f cdv)).guards = some [] →
      sp vs H Q E → ∃ t, PSs (cxOf CX0 P w K mg base N qual (defScope st) f cdv A outer s H E).nox (defBody st) t ∧ t { nx := fun _ H' => Q .non H', rt := Q } (start N vs) H) : FnG P w K mg base (k + 1) f fd ps sp := by
  obtain ⟨oc, od, kV, doc, pm, an, cdv, ct, osl, rfl, lk, code⟩ := D.ex
  refine ⟨len, fun A outer s H args us vs Q E room gd e0 bd rv hs => ?_⟩
  have old : ∀ b o, base.get? b = some o → s.heap.get? b = some o := fun b o e => (e0.bs b o e).1
  have KX : K.In s.heap := e0.mod.kin.keeps old
  have names : ∀ y ∈ ps.zip us, (defScope st).names.lookup y.1 = some .local ∨ ((defScope st).names.lookup y.1 = some .cell ∧ ((cellsFrom (s.heap.objs.size + 1) (defScope st).names []).lookup y.1).isSome = true) := fun ⟨n, v⟩ hy =>
    (S.par n (List.of_mem_zip hy).1).imp id fun q => ⟨q, PySem.W.cellsFrom_some _ _ _ (.inl q)⟩
  refine codeAny_call_function room.depth (KX _ _ lk) rfl S.co S.gen rfl (PySem.W.codeRec_of KX code) (bd _ _ _ _ (wpAny_newFunctionEnv_cells S.kind names ?_))
  rintro env rfl s1 call
  obtain ⟨t, body, q0⟩ := go cdv A outer s H vs Q E (room.deeper _) gd hs
  have I := inv_start (CX := CX0) (E := E) S room.hd e0 (len _ _ _ _ hs) rv call
  refine ⟨(e0.mod.nolimit.keeps old).keeps call.toInCall.keep, codeAny_func (wpAny_mono (body.nox.run [] s1 (start N vs) H _ I q0) ?_ fun _ _ z => z)⟩
  intro fl s' z
  have bye : ∀ {σ' : L2.St} {H' : Hp} {v : V} {u : Value}, Inv (cxOf CX0 P w K mg base N qual (defScope st) f cdv A outer s H E) [] σ' H' s' → RelV v u → Q v H' → CE outer P w H s Q u s' := fun {σ' H' v u} J r y => ⟨v, H', J.os, J.bare, J.base, J.hok, r, y⟩
  cases fl
  case ret u =>
    obtain ⟨v, σ', H', J, r, y⟩ := z
    exact bye J r y
  case next =>
    obtain ⟨σ', H', J, y⟩ := z
    exact bye (v := V.non) (u := Value.none) J rfl y
  all_goals
    obtain ⟨_, _, _, y⟩ := z
    exact False.elim y
end
/-- repr of a thing that is known deep down -/
def rReprD (K : PySem.W.Frag) : List V → Hp → VK → Prop := fun xs H Q =>
  ∃ (a : Addr) (d : PyData), xs = [.ref a] ∧ Dp K H (.ref a) d ∧ d.showable = true ∧ d.hasDict = false ∧ d.depth ≤ 30 ∧ d.shown.length ≤ sizeLine ∧ Q (.str d.shown) H
theorem call_reprD {X : Cx} (gd : X.A.guards = some []) (un : X.A.units + 64 < cLine) : CallR X (.builtin "repr") (rReprD X.K) := by
  intro pins s σ H xs us Q I rv z
  obtain ⟨a, d, rfl, dp, sh, nd, de, sz, q⟩ := z
  cases rv with
  | cons r0 rr =>
    cases rr
    cases r0
    obtain ⟨as, rd⟩ := Dp.reads I d (.ref a) (.ref a) dp rfl
    refine repr_of_reads' rd sh (fun y => by rw [nd] at y; cases y) gd (by omega) (fun _ _ e => e) (fun h' u tk old => ?_) sz
    exact ⟨.str d.shown, H, I.kept (t' := tk) old, ⟨u, rfl⟩, q⟩
end MyG

/-! the theorem's head for a law's def that keeps a promise where no repr is under way -/
namespace MyG
open PySem PySem.Spec PyProof.Rows L2
/-- the heap in which nothing but the script is tracked, unless the script is the module's own -/
def heap0 (K : PySem.W.Frag) (a : Addr) (ob : Obj) (xs : List V) : Hp := fun b => if b = a ∧ K.lookup a = none then some (.frz ob (.lst xs)) else none
theorem heap0_some {K : PySem.W.Frag} {a b : Addr} {ob : Obj} {xs : List V} {u : HO} (h : heap0 K a ob xs b = some u) : b = a ∧ K.lookup a = none ∧ u = .frz ob (.lst xs) := by
  unfold heap0 at h
  split at h
  · rename_i c
    exact ⟨c.1, c.2, (Option.some.inj h).symm⟩
  · cases h
theorem heap0_only {K : PySem.W.Frag} {a : Addr} {ob : Obj} {xs : List V} : Only (heap0 K a ob xs) := fun b => by
  cases h : heap0 K a ob xs b with
  | none => exact .inl rfl
  | some u => exact .inr ⟨ob, xs, by rw [(heap0_some h).2.2]⟩
theorem head_call {P : Program} {w : World} {K : PySem.W.Frag} {mg mb : Str → Option Value} {k : Nat} {fa a : Addr} {fd : FuncData} {x : Str} {sp : Sp} {s₁ : Shared} {vs : List Value} {ns : List Int}
    (kin : K.In s₁.heap) (nm : s₁.heap.Ns mainGlobals mg) (nb : s₁.heap.Ns builtinsNs mb) (nbb : ∀ x : Str, x ≠ "__name__" → mb x = bootBuiltins x) (nl : s₁.heap.NoLimit) (gs : s₁.gens = #[])
    (lies : s₁.heap.get? a = some { cls := .type "list", data := .seq vs.toArray }) (are : IntsAre vs ns) (le : ns.length ≤ sizeLine) (room : Room k callerA)
    (F : ∀ base : Heap, K.In base → base.Ns mainGlobals mg → FnG P w K mg base k fa fd [x] sp) (bd : ∀ (s : Shared) (u : Value), BindsTo s fd ⟨[u], []⟩ [(x, u)])
    (pre : ∀ H : Hp, Only H → SqL K H a (ns.map V.int) → sp [.ref a] H (fun v _ => v = .bl true) fun _ _ _ => False) :
    codeAny (model P w) callerA (.call (.ref fa) ⟨[.ref a], []⟩) (fun r s' => r = .ok (.ret (.bool true)) ∧ OldK s₁.heap s'.heap ∧ s'.os = s₁.os ∧ AllBare s'.gens) s₁ := by
  have rv := vals_ints are
  obtain ⟨ob, eob⟩ : ∃ ob : Obj, ob = { cls := .type "list", data := .seq vs.toArray } := ⟨_, rfl⟩
  obtain ⟨H, eH⟩ : ∃ H : Hp, H = heap0 K a ob (ns.map V.int) := ⟨_, rfl⟩
  have some_ : ∀ {b u}, H b = some u → b = a ∧ K.lookup a = none ∧ u = .frz ob (.lst (ns.map V.int)) := fun {b u} h => heap0_some (eH ▸ h)
  have only : Only H := eH ▸ heap0_only
  have sq : SqL K H a (ns.map V.int) := by
    cases lk : K.lookup a with
    | some o =>
      have e := kin a o lk
      rw [lies] at e
      cases e
      exact .inr ⟨_, vs.toArray, _, lk, rfl, rfl, rfl, by rw [List.size_toArray, are.length]; exact le, by simpa using rv⟩
    | none => exact .inl (.inr ⟨ob, by rw [eH]; exact if_pos ⟨rfl, lk⟩⟩)
  have ok : HOk P w H s₁.heap := fun b u h => by
    obtain ⟨rfl, _, rfl⟩ := some_ h
    rw [eob]
    exact ⟨lies, by rw [List.length_map]; exact le, vs, _, rv, lies⟩
  have isK : ∀ b o, K.lookup b = some o → H b = none := fun b o e => by
    cases h : H b with
    | none => rfl
    | some u =>
      obtain ⟨rfl, n, _⟩ := some_ h
      rw [n] at e
      cases e
  have isD : ∀ {b : Addr} {o : Obj} {es : Array DictEntry} {ep : Nat}, s₁.heap.get? b = some o → o.data = .dict es ep → H b = none := fun {b o es ep} e d => by
    cases h : H b with
    | none => rfl
    | some u =>
      obtain ⟨rfl, _, _⟩ := some_ h
      rw [lies] at e
      cases e
      have d' : Data.seq vs.toArray _ = Data.dict es ep := d
      cases d'
  have ns_ : ∀ {b : Addr} {m : Str → Option Value}, s₁.heap.Ns b m → (hidT s₁.heap H).Ns b m := fun {b m} ⟨o, es, ep, e, d, r⟩ => ⟨o, es, ep, hidT_get e (isD e d), d, r⟩
  have kb : K.In (hidT s₁.heap H) := fun b o e => hidT_get (kin b o e) (isK b o e)
  obtain ⟨mc, l1, l2⟩ := nl
  have e0 : Env0 P w K mg (hidT s₁.heap H) callerA [] s₁ H := {
    frames := rfl
    mod := ⟨kb, ns_ nm, ⟨mb, ns_ nb, nbb⟩, mc, ns_ l1, l2⟩
    bs := fun b o e => of_hidT e
    bsz := Nat.le_of_eq (hidT_size _ _)
    funs := trivial
    frf := fun b hb => nomatch hb
    hok := ok
    bare := .of_eq gs }
  refine codeAny_mono ((F _ kb (ns_ nm)).run callerA [] s₁ H ⟨[.ref a], []⟩ [.ref a] [.ref a] _ _ room rfl e0 (bd s₁ (.ref a)) (.cons rfl .nil) (pre H only sq)) fun r s' h => ?_
  cases r with
  | error e => exact False.elim h
  | ok fl =>
    cases fl with
    | ret u =>
      obtain ⟨v, H', os, bare, un, ok', r', q⟩ := h
      obtain rfl : v = .bl true := q
      obtain rfl : u = Value.bool true := r'
      refine ⟨rfl, OldK.of_keep fun b o e => ?_, os, bare⟩
      cases h : H b with
      | none => exact un.keep b o e h (fun z => nomatch z) (fun z => nomatch z)
      | some y =>
        obtain ⟨rfl, _, rfl⟩ := some_ h
        have z2 := ok' _ _ (un.frzs _ ob _ h)
        rw [lies] at e
        cases e
        rw [eob] at z2
        exact z2.1
    | next => exact False.elim h
    | brk => exact False.elim h
    | cont => exact False.elim h
/-- as walk_of, for such a promise -/
theorem walk_G {l : PySem.W.OpenLaw} {n k : Nat} {q : Program} {loose : List Str} {XP : (Str → Option Value) → Heap → Prop} {YP : World → Heap → Prop} {d : DefRec} {K : Params → PySem.W.Frag} {sp : World → Sp} {x : Str}
    (most : l.most = some n) (small : n ≤ sizeLine) (nodef : d.params.defaults = []) (room : Room k callerA) (hY : ∀ (w : World) (h : Heap), YP w h → (K w.params).In h)
    (F : ∀ (w : World) (mg : Str → Option Value) (fa : Addr) (h : Heap), (K w.params).In h → h.Ns mainGlobals mg → mg d.name = some (.ref fa) → ∃ fd : FuncData, (∀ (s : Shared) (u : Value), BindsTo s fd ⟨[u], []⟩ [(x, u)]) ∧
      ∀ base : Heap, (K w.params).In base → base.Ns mainGlobals mg → FnG l.prog w (K w.params) mg base k fa fd [x] (sp w))
    (pre : ∀ (w : World) (H : Hp) (a : Addr) (ns : List Int), ns.length ≤ n → Only H → SqL (K w.params) H a (ns.map V.int) → sp w [.ref a] H (fun v _ => v = .bl true) fun _ _ _ => False) :
    PySem.W.WalkO q loose XP YP l.row.toRowW d [] (fun f vs => PySem.call f vs) :=
  Att.attach_call most nodef fun w s₀ s₁ mg mb fa o pm cd doc a vs ns G Y ho hd hcd hmg lies are le gs => by
    have KX := hY w _ Y
    obtain ⟨fd, bd, F1⟩ := F w mg fa _ KX G.T.g hmg
    exact head_call KX G.T.g G.T.b G.T.builtins G.T.nolimit gs lies are (Nat.le_trans le small) room F1 bd fun H o s => pre w H a ns le o s
end MyG

open PySem PySem.W PyProof.Rows in
set_option maxHeartbeats 0 in
theorem PySem.Challenge.cw_waitworks_k88_goings_and_counts_holds : PySem.Challenge.rw_waitworks_k88_goings_and_counts.Holds := by
  w_on; o_law; k_head; (case hw => w_witness2)
  k_fill
  refine L2.walk_of (l := PySem.Challenge.rw_waitworks_k88_goings_and_counts) (n := 63) (k := 10) (x := "script") (CX := fun _ => L2.CX0) (sp := fun w => My.spLaw _) rfl (by decide) rfl ⟨rfl, by decide, by decide⟩ (fun w h Y => PySem.W.kIn_of Y) ?F (fun _ _ a ns hl _ hS => ⟨a, ns, rfl, hS, hl, fun _ => rfl⟩) (fun _ _ _ _ _ h => h)
  case F =>
    intro w mg fa h KX G hmg
    refine' My.end_mk KX G hmg ?aL ?lL ?cL ?kL ?disinteger ?disnumber ?dissequence ?distupleof ?dinlowestterms ?dunit ?dempty ?dnothings ?dleastform ?dmoved ?dtoldby ?dlastby ?disstep ?disendlessstep ?drise ?dendless ?dtally ?dunlike ?dgoings ?dlawbox ?dlawtake ?dlawpick ?dlawsteps ?dlawraw ?dlawat ?dlawmade ?dlawline ?dlawrow ?dlawisless ?dlawleasttime ?dlawrowright ?dlawtallyright ?drises ?dalllater ?dshortestturn ?disempty ?dlawtime ?dlawcount ?dWc ?dWr ?dSs ?dSr ?dI ?dIr ?dET ?dPc ?dPr ?mCby ?mCeq ?mRtime ?mRcount ?mReq ?tx ?gGc ?rc ?rr ?gT ?gRo ?haC ?hmC ?zneC ?icC ?tcC ?haR ?hmR ?zneR ?icR ?tcR ?zhn ?zht ?nwD
    (case aL => k_is)
    (case lL => k_is)
    (case cL => k_is)
    (case kL => k_is)
    (case disinteger => (refine' My.df_mk KX G ?a ?l ?c ?k (fun _ _ _ _ _ _ us hl => match us, hl with | [_], _ => rfl)); (case a => k_is); (case l => k_is); (case c => k_is); (case k => k_is))
    (case disnumber => (refine' My.df_mk KX G ?a ?l ?c ?k (fun _ _ _ _ _ _ us hl => match us, hl with | [_], _ => rfl)); (case a => k_is); (case l => k_is); (case c => k_is); (case k => k_is))
    (case dissequence => (refine' My.df_mk KX G ?a ?l ?c ?k (fun _ _ _ _ _ _ us hl => match us, hl with | [_], _ => rfl)); (case a => k_is); (case l => k_is); (case c => k_is); (case k => k_is))
    (case distupleof => (refine' My.df_mk KX G ?a ?l ?c ?k (fun _ _ _ _ _ _ us hl => match us, hl with | [_, _], _ => rfl)); (case a => k_is); (case l => k_is); (case c => k_is); (case k => k_is))
    (case dinlowestterms => (refine' My.df_mk KX G ?a ?l ?c ?k (fun _ _ _ _ _ _ us hl => match us, hl with | [_, _], _ => rfl)); (case a => k_is); (case l => k_is); (case c => k_is); (case k => k_is))
    (case dunit => (refine' My.df_mk KX G ?a ?l ?c ?k (fun _ _ _ _ _ _ us hl => match us, hl with | [], _ => rfl)); (case a => k_is); (case l => k_is); (case c => k_is); (case k => k_is))
    (case dempty => (refine' My.df_mk KX G ?a ?l ?c ?k (fun _ _ _ _ _ _ us hl => match us, hl with | [], _ => rfl)); (case a => k_is); (case l => k_is); (case c => k_is); (case k => k_is))
    (case dnothings => (refine' My.df_mk KX G ?a ?l ?c ?k (fun _ _ _ _ _ _ us hl => match us, hl with | [_], _ => rfl)); (case a => k_is); (case l => k_is); (case c => k_is); (case k => k_is))
    (case dleastform => (refine' My.df_mk KX G ?a ?l ?c ?k (fun _ _ _ _ _ _ us hl => match us, hl with | [_, _, _, _], _ => rfl)); (case a => k_is); (case l => k_is); (case c => k_is); (case k => k_is))
    (case dmoved => (refine' My.df_mk KX G ?a ?l ?c ?k (fun _ _ _ _ _ _ us hl => match us, hl with | [_, _, _], _ => rfl)); (case a => k_is); (case l => k_is); (case c => k_is); (case k => k_is))
    (case dtoldby => (refine' My.df_mk KX G ?a ?l ?c ?k (fun _ _ _ _ _ _ us hl => match us, hl with | [_, _], _ => rfl)); (case a => k_is); (case l => k_is); (case c => k_is); (case k => k_is))
    (case dlastby => (refine' My.df_mk KX G ?a ?l ?c ?k (fun _ _ _ _ _ _ us hl => match us, hl with | [_, _], _ => rfl)); (case a => k_is); (case l => k_is); (case c => k_is); (case k => k_is))
    (case disstep => (refine' My.df_mk KX G ?a ?l ?c ?k (fun _ _ _ _ _ _ us hl => match us, hl with | [_], _ => rfl)); (case a => k_is); (case l => k_is); (case c => k_is); (case k => k_is))
    (case disendlessstep => (refine' My.df_mk KX G ?a ?l ?c ?k (fun _ _ _ _ _ _ us hl => match us, hl with | [_], _ => rfl)); (case a => k_is); (case l => k_is); (case c => k_is); (case k => k_is))
    (case drise => (refine' My.df_mk KX G ?a ?l ?c ?k (fun _ _ _ _ _ _ us hl => match us, hl with | [_], _ => rfl)); (case a => k_is); (case l => k_is); (case c => k_is); (case k => k_is))
    (case dendless => (refine' My.df_mk KX G ?a ?l ?c ?k (fun _ _ _ _ _ _ us hl => match us, hl with | [], _ => rfl)); (case a => k_is); (case l => k_is); (case c => k_is); (case k => k_is))
    (case dtally => (refine' My.df_mk KX G ?a ?l ?c ?k (fun _ _ _ _ _ _ us hl => match us, hl with | [_], _ => rfl)); (case a => k_is); (case l => k_is); (case c => k_is); (case k => k_is))
    (case dunlike => (refine' My.df_mk KX G ?a ?l ?c ?k (fun _ _ _ _ _ _ us hl => match us, hl with | [_], _ => rfl)); (case a => k_is); (case l => k_is); (case c => k_is); (case k => k_is))
    (case dgoings => (refine' My.df_mk KX G ?a ?l ?c ?k (fun _ _ _ _ _ _ us hl => match us, hl with | [_], _ => rfl)); (case a => k_is); (case l => k_is); (case c => k_is); (case k => k_is))
    (case dlawbox => (refine' My.df_mk KX G ?a ?l ?c ?k (fun _ _ _ _ _ _ us hl => match us, hl with | [_, _], _ => rfl)); (case a => k_is); (case l => k_is); (case c => k_is); (case k => k_is))
    (case dlawtake => (refine' My.df_mk KX G ?a ?l ?c ?k (fun _ _ _ _ _ _ us hl => match us, hl with | [_, _], _ => rfl)); (case a => k_is); (case l => k_is); (case c => k_is); (case k => k_is))
    (case dlawpick => (refine' My.df_mk KX G ?a ?l ?c ?k (fun _ _ _ _ _ _ us hl => match us, hl with | [_, _], _ => rfl)); (case a => k_is); (case l => k_is); (case c => k_is); (case k => k_is))
    (case dlawsteps => (refine' My.df_mk KX G ?a ?l ?c ?k (fun _ _ _ _ _ _ us hl => match us, hl with | [_, _, _, _], _ => rfl)); (case a => k_is); (case l => k_is); (case c => k_is); (case k => k_is))
    (case dlawraw => (refine' My.df_mk KX G ?a ?l ?c ?k (fun _ _ _ _ _ _ us hl => match us, hl with | [_], _ => rfl)); (case a => k_is); (case l => k_is); (case c => k_is); (case k => k_is))
    (case dlawat => (refine' My.df_mk KX G ?a ?l ?c ?k (fun _ _ _ _ _ _ us hl => match us, hl with | [_, _], _ => rfl)); (case a => k_is); (case l => k_is); (case c => k_is); (case k => k_is))
    (case dlawmade => (refine' My.df_mk KX G ?a ?l ?c ?k (fun _ _ _ _ _ _ us hl => match us, hl with | [_], _ => rfl)); (case a => k_is); (case l => k_is); (case c => k_is); (case k => k_is))
    (case dlawline => (refine' My.df_mk KX G ?a ?l ?c ?k (fun _ _ _ _ _ _ us hl => match us, hl with | [_], _ => rfl)); (case a => k_is); (case l => k_is); (case c => k_is); (case k => k_is))
    (case dlawrow => (refine' My.df_mk KX G ?a ?l ?c ?k (fun _ _ _ _ _ _ us hl => match us, hl with | [_], _ => rfl)); (case a => k_is); (case l => k_is); (case c => k_is); (case k => k_is))
    (case dlawisless => (refine' My.df_mk KX G ?a ?l ?c ?k (fun _ _ _ _ _ _ us hl => match us, hl with | [_, _], _ => rfl)); (case a => k_is); (case l => k_is); (case c => k_is); (case k => k_is))
    (case dlawleasttime => (refine' My.df_mk KX G ?a ?l ?c ?k (fun _ _ _ _ _ _ us hl => match us, hl with | [_, _], _ => rfl)); (case a => k_is); (case l => k_is); (case c => k_is); (case k => k_is))
    (case dlawrowright => (refine' My.df_mk KX G ?a ?l ?c ?k (fun _ _ _ _ _ _ us hl => match us, hl with | [_], _ => rfl)); (case a => k_is); (case l => k_is); (case c => k_is); (case k => k_is))
    (case dlawtallyright => (refine' My.df_mk KX G ?a ?l ?c ?k (fun _ _ _ _ _ _ us hl => match us, hl with | [_], _ => rfl)); (case a => k_is); (case l => k_is); (case c => k_is); (case k => k_is))
    (case drises => (refine' My.df_mk KX G ?a ?l ?c ?k (fun _ _ _ _ _ _ us hl => match us, hl with | [_], _ => rfl)); (case a => k_is); (case l => k_is); (case c => k_is); (case k => k_is))
    (case dalllater => (refine' My.df_mk KX G ?a ?l ?c ?k (fun _ _ _ _ _ _ us hl => match us, hl with | [_, _], _ => rfl)); (case a => k_is); (case l => k_is); (case c => k_is); (case k => k_is))
    (case dshortestturn => (refine' My.df_mk KX G ?a ?l ?c ?k (fun _ _ _ _ _ _ us hl => match us, hl with | [_, _], _ => rfl)); (case a => k_is); (case l => k_is); (case c => k_is); (case k => k_is))
    (case disempty => (refine' My.df_mk KX G ?a ?l ?c ?k (fun _ _ _ _ _ _ us hl => match us, hl with | [_], _ => rfl)); (case a => k_is); (case l => k_is); (case c => k_is); (case k => k_is))
    (case dlawtime => (refine' My.df_mk KX G ?a ?l ?c ?k (fun _ _ _ _ _ _ us hl => match us, hl with | [_, _], _ => rfl)); (case a => k_is); (case l => k_is); (case c => k_is); (case k => k_is))
    (case dlawcount => (refine' My.df_mk KX G ?a ?l ?c ?k (fun _ _ _ _ _ _ us hl => match us, hl with | [_, _], _ => rfl)); (case a => k_is); (case l => k_is); (case c => k_is); (case k => k_is))
    (case dWc => (refine' My.dfa_mk KX G ?a ?l ?c ?k (fun _ _ _ _ _ _ us hl => match us, hl with | [_, _, _, _, _], _ => rfl)); (case a => k_is); (case l => k_is); (case c => k_is); (case k => k_is))
    (case dWr => (refine' My.dfa_mk KX G ?a ?l ?c ?k (fun _ _ _ _ _ _ us hl => match us, hl with | [_, _, _], _ => rfl)); (case a => k_is); (case l => k_is); (case c => k_is); (case k => k_is))
    (case dSs => (refine' My.dfa_mk KX G ?a ?l ?c ?k (fun _ _ _ _ _ _ us hl => match us, hl with | [_, _, _, _], _ => rfl)); (case a => k_is); (case l => k_is); (case c => k_is); (case k => k_is))
    (case dSr => (refine' My.dfa_mk KX G ?a ?l ?c ?k (fun _ _ _ _ _ _ us hl => match us, hl with | [_, _, _, _], _ => rfl)); (case a => k_is); (case l => k_is); (case c => k_is); (case k => k_is))
    (case dI => (refine' My.dfi_mk KX G ?aC ?a ?i ?mk ?kc ?l ?c ?k); (case aC => k_is); (case a => k_is); (case i => k_is); (case mk => k_is); (case kc => k_is); (case l => k_is); (case c => k_is); (case k => k_is))
    (case dIr => (refine' My.dfir_mk KX G ?aC ?a ?i ?mk ?kc ?l ?lT ?oT ⟨_, rfl⟩ ?c ?k); (case aC => k_is); (case a => k_is); (case i => k_is); (case mk => k_is); (case kc => k_is); (case l => k_is); (case lT => k_is); (case oT => rfl); (case c => k_is); (case k => k_is))
    (case dET => (refine' My.dfe_mk KX G ?aD ?xL ?sa ?eC ?tC ?kC ?a1 ?t1 ?l ?c ?k (fun _ _ _ _ _ _ us hl => match us, hl with | [_, _], _ => rfl)); (case aD => k_is); (case xL => k_is); (case sa => k_is); (case eC => k_is); (case tC => k_is); (case kC => k_is); (case a1 => k_is); (case t1 => k_is); (case l => k_is); (case c => k_is); (case k => k_is))
    (case dPc => (refine' My.dfp_mk ?a ?g ?t ?r ?l ?c ?k (fun _ _ _ _ _ _ us hl => match us, hl with | [_], _ => rfl)); (case a => k_is); (case g => k_is); (case t => k_is); (case r => k_is); (case l => k_is); (case c => k_is); (case k => k_is))
    (case dPr => (refine' My.dfp_mk ?a ?g ?t ?r ?l ?c ?k (fun _ _ _ _ _ _ us hl => match us, hl with | [_], _ => rfl)); (case a => k_is); (case g => k_is); (case t => k_is); (case r => k_is); (case l => k_is); (case c => k_is); (case k => k_is))
    (case mCby => (refine' My.dfm_mk ?a ?i ?l ?c ?k (fun _ _ _ _ _ _ us hl => match us, hl with | [_, _], _ => rfl)); (case a => k_is); (case i => k_is); (case l => k_is); (case c => k_is); (case k => k_is))
    (case mCeq => (refine' My.dfm_mk ?a ?i ?l ?c ?k (fun _ _ _ _ _ _ us hl => match us, hl with | [_, _], _ => rfl)); (case a => k_is); (case i => k_is); (case l => k_is); (case c => k_is); (case k => k_is))
    (case mRtime => (refine' My.dfm_mk ?a ?i ?l ?c ?k (fun _ _ _ _ _ _ us hl => match us, hl with | [_, _], _ => rfl)); (case a => k_is); (case i => k_is); (case l => k_is); (case c => k_is); (case k => k_is))
    (case mRcount => (refine' My.dfm_mk ?a ?i ?l ?c ?k (fun _ _ _ _ _ _ us hl => match us, hl with | [_, _], _ => rfl)); (case a => k_is); (case i => k_is); (case l => k_is); (case c => k_is); (case k => k_is))
    (case mReq => (refine' My.dfm_mk ?a ?i ?l ?c ?k (fun _ _ _ _ _ _ us hl => match us, hl with | [_, _], _ => rfl)); (case a => k_is); (case i => k_is); (case l => k_is); (case c => k_is); (case k => k_is))
    (case tx => refine' ⟨mg_none_of KX G ?_, mg_none_of KX G ?_, mg_none_of KX G ?_, mg_none_of KX G ?_, mg_none_of KX G ?_, mg_none_of KX G ?_, mg_none_of KX G ?_, mg_none_of KX G ?_, mg_none_of KX G ?_, mg_none_of KX G ?_, mg_none_of KX G ?_, mg_none_of KX G ?_, mg_none_of KX G ?_, mg_none_of KX G ?_⟩ <;> k_is)
    (case gGc => (refine' mg_of KX G ?_); k_is)
    (case rc => (refine' My.rc_mk ?pg ?hd ?po ?sa ?n0 ?n1 ?n2 ?n3 ?n4); (case pg => k_is); (case hd => k_is); (case po => k_is); (case sa => k_is); (case n0 => k_is); (case n1 => k_is); (case n2 => k_is); (case n3 => k_is); (case n4 => k_is))
    (case rr => (refine' My.rr_mk ?pg ?hd ?po ?sa ?n0 ?n1 ?n2); (case pg => k_is); (case hd => k_is); (case po => k_is); (case sa => k_is); (case n0 => k_is); (case n1 => k_is); (case n2 => k_is))
    (case gT => (refine' mg_of KX G ?_); k_is)
    (case gRo => (refine' mg_of KX G ?_); k_is)
    (case haC => k_is)
    (case hmC => first | rfl | k_is)
    (case zneC => k_is)
    (case icC => k_is)
    (case tcC => k_is)
    (case haR => k_is)
    (case hmR => first | rfl | k_is)
    (case zneR => k_is)
    (case icR => k_is)
    (case tcR => k_is)
    (case zhn => k_is)
    (case zht => k_is)
    (case nwD => k_is)
