import PyProof.Rows.All
import Wide.All
import OpenK.AllK
import Wide.FinOn
import KE.KStateDown
import HandS.ForMost
import HandS.ForExc
import HandS.ExcInit
import HandS.ExcField
import HandS.ExcIs
import HandS.IsInst
import HandS.Codes
import HandS.Star
import HandS.Steps
import HandS.Evl
import HandS.Head0
import HandS.Head1
import HandS.Head2
import HandS.HeadEnd
import HandS.HeadHook1
import HandS.HeadHook2
import HandS.HeadHook3
import HandS.HeadHook4
import KE.KExcIs
import HandS.SortKw
import HandS.OwnEq
import PySem.Challenge.RW_manyboard_k03_boards_alike
set_option Elab.async false
set_option linter.all false
set_option maxRecDepth 100000
set_option maxHeartbeats 4000000
namespace My
open PySem PySem.Spec PyProof.Rows L2
/-! what must be so of a call's text; all of it holds by evaluation -/
abbrev StarOk (X : Cx) (e : Expr) (es : List Expr) : Prop := starEach (e :: es) X.env = (false, eval e X.env) :: starEach es X.env
abbrev NoStars (X : Cx) (pos : Pos) (es : List Expr) : Prop := (backTo pos (starEach es X.env)).any (·.1) = false
abbrev NotDbg (x : Str) : Prop := (x == ("__debug__" : Str)) = false
abbrev CallsSo (X : Cx) (o : Expr) (m : Str) (args : List Expr) (apos pos : Pos) (pl : Sem Bool) : Prop :=
  eval (.Call (.Attribute o m apos) args [] pos) X.env = eval o X.env >>= fun v => standAt apos.atName >>= fun _ => holding [v] (getMethod v m pl) >>= fun r => callWith pos r.1 r.2 (backTo pos (starEach args X.env)) (backToKw pos (keywordEach [] X.env))
section calls
variable {X : Cx} {Z : CXT} {k j : Nat} {C : Addr} {x m : Str} {sp : Sp} {E : L2.St → XK} {p pos apos : Pos} {e o : Expr} {es : List Expr} {ta : TE} {t : TA}
/-- a def of the module by its name -/
structure Cal (P : Program) (w : World) (K : PySem.W.Frag) (mg : Str → Option Value) (base : Heap) (CX : CXT) (k : Nat) (x : Str) (sp : Sp) : Prop where
  ex : ∃ (f : Addr) (fd : FuncData) (ps : List Str), FnOk P w K mg base CX k f fd ps sp ∧ mg x = some (.ref f) ∧ PySem.W.keepIn K (.ref f) = true ∧ Binds K fd ps []
/-- a method -/
structure Met (P : Program) (w : World) (K : PySem.W.Frag) (mg : Str → Option Value) (base : Heap) (CX : CXT) (k : Nat) (C : Addr) (m : Str) (sp : Sp) : Prop where
  ex : ∃ (f : Addr) (fd : FuncData) (ps : List Str), L2.Cls K C ∧ Meth K C m f ∧ FnOk P w K mg base CX k f fd ps sp ∧ Binds K fd ps []
/-- an own class made by its name -/
structure Mak (P : Program) (w : World) (K : PySem.W.Frag) (mg : Str → Option Value) (base : Heap) (CX : CXT) (k : Nat) (x : Str) (C : Addr) (sp : Sp) : Prop where
  ex : ∃ (f : Addr) (fd : FuncData) (ps : List Str), Mk K C f ∧ FnOk P w K mg base CX k f fd ps sp ∧ mg x = some (.ref C) ∧ Binds K fd ps []
/-- nothing leaves -/
theorem at0 {X : Cx} : ∀ σ, PassesAt CX0 X σ ((fun _ => E0) σ) := fun _ _ _ _ _ _ _ h => h.elim
theorem atL {X : Cx} : ∀ σ, PassesAt (L2.CX X.prog X.w) X σ ((fun _ => E0) σ) := fun σ => (fun pins H s e s' I h => passL pins σ H s e s' I h)
/-- what leaves goes out at the slots -/
theorem atW {X : Cx} {W : WX} (tk : Takes X W) : ∀ σ, PassesAt (L2.CX X.prog X.w) X σ (WE W σ) := fun σ => passAt tk σ
theorem pe_c (c : Cal X.prog X.w X.K X.mg X.base Z k x sp) (hr : Room j X.A) (hk : k ≤ j) (hx : ∀ σ, PassesAt Z X σ (E σ)) (hg : Gl X x) (ha : PA X (e :: es) t)
    (hdb : NotDbg x := by decide) (he : StarOk X e es := by rfl) (hpl : NoStars X pos es := by rfl) : PE X (.Call (.Name x p) (e :: es) [] pos) (tCallS sp E t) := by
  obtain ⟨f, fd, ps, F, hm, kp, b⟩ := c.ex
  exact pe_callS F (hr.mono hk) hg hm kp b hx ha hdb he hpl
def tMethS (C : Addr) (m : Str) (sp : Sp) (E : L2.St → XK) (ta : TE) (t : TA) : TE := fun σ H Q => ta σ H fun x H1 => ∃ a dx fs, x = .ref a ∧ H1 a = some (.ins C dx fs) ∧ fs.lookup m = none ∧ t σ H1 fun vs H2 => sp (x :: vs) H2 Q (E σ)
theorem pe_m {pl : Sem Bool} (c : Met X.prog X.w X.K X.mg X.base Z k C m sp) (hr : Room j X.A) (hk : k ≤ j) (hx : ∀ σ, PassesAt Z X σ (E σ)) (he : PE X o ta) (ha : PA X (e :: es) t)
    (hst : StarOk X e es := by rfl) (hpl : NoStars X pos es := by rfl)
    (ht : CallsSo X o m (e :: es) apos pos pl := by rfl) : PE X (.Call (.Attribute o m apos) (e :: es) [] pos) (tMethS C m sp E ta t) := by
  obtain ⟨f, fd, ps, cl, hm, F, b⟩ := c.ex
  refine ⟨fun pins s σ H Q I h => PySem.W.methodCall_KW (pl := pl) (thn (he.run pins s σ H _ I h) fun u s1 hh => ?_) ht⟩
  obtain ⟨y, H1, I1, ry, a, dx, fs, ey, ea, l, q⟩ := hh
  subst ey; obtain rfl : u = Value.ref a := ry
  refine getmeth_ok I1 ea cl hm l (PySem.W.callWith_K (first := [.ref a]) (h₀ := X.base) I1.ok.mod.kin hm.kp (thn (ha.run pos pins s1 σ H1 _ I1 q) fun us s2 hh2 => ?_) hst hpl)
  obtain ⟨vs, H2, I2, r, q2⟩ := hh2
  exact ⟨I2.kIn, run_fnS (us := .ref a :: us) (vs := .ref a :: vs) F (hr.mono hk) b (hx σ) I2 (.cons rfl r) q2⟩
theorem pe_m0 {pl : Sem Bool} (c : Met X.prog X.w X.K X.mg X.base Z k C m sp) (hr : Room j X.A) (hk : k ≤ j) (hx : ∀ σ, PassesAt Z X σ (E σ)) (he : PE X o ta)
    (ht : CallsSo X o m [] apos pos pl := by rfl) : PE X (.Call (.Attribute o m apos) [] [] pos) (tMethS C m sp E ta tNil) := by
  obtain ⟨f, fd, ps, cl, hm, F, b⟩ := c.ex
  refine ⟨fun pins s σ H Q I h => PySem.W.methodCall_KW (pl := pl) (thn (he.run pins s σ H _ I h) fun u s1 hh => ?_) ht⟩
  obtain ⟨y, H1, I1, ry, a, dx, fs, ey, ea, l, q⟩ := hh
  subst ey; obtain rfl : u = Value.ref a := ry
  refine getmeth_ok I1 ea cl hm l ?_
  exact PySem.W.callWith_K0 (first := [.ref a]) I1.kIn hm.kp (run_fnS (us := [.ref a]) (vs := [.ref a]) F (hr.mono hk) b (hx σ) I1 (.cons rfl .nil) q)
def tMakeS (C : Addr) (sp : Sp) (E : L2.St → XK) (t : TA) : TE := fun σ H Q => t σ H fun vs H1 => ∀ x dx, H1 x = none → H1 dx = none → dx ≠ x → sp (.ref x :: vs) (upd (upd H1 dx (.own x)) x (.ins C dx [])) (fun v H2 => v = .non ∧ Q (.ref x) H2) (E σ)
theorem pe_mk (c : Mak X.prog X.w X.K X.mg X.base Z k x C sp) (hr : Room j X.A) (hk : k + 1 ≤ j) (hx : ∀ σ, PassesAt Z X σ (E σ)) (hg : Gl X x) (ha : PA X (e :: es) t)
    (hdb : NotDbg x := by decide) (he : StarOk X e es := by rfl) (hpl : NoStars X pos es := by rfl) :
    PE X (.Call (.Name x p) (e :: es) [] pos) (tMakeS C sp E t) := by
  obtain ⟨f, fd, ps, M, F, hm, b⟩ := c.ex
  refine ⟨fun pins s σ H Q I h => wpAny_Call_Name_kw (ld_glob I hg hm (PySem.W.callWith_K (h₀ := X.base) I.ok.mod.kin M.kp (thn (ha.run pos pins s σ H _ I h) fun us s1 hh => ?_) he hpl) hdb)⟩
  obtain ⟨vs, H1, I1, r, q⟩ := hh
  refine ⟨I1.kIn, ?_⟩
  have hq := q (s1.heap.objs.size + 1) s1.heap.objs.size (I1.hok.fresh (Nat.le_succ _)) (I1.hok.fresh (Nat.le_refl _)) (Nat.ne_of_lt (Nat.lt_succ_self _))
  have I2 := Inv.made (C := C) I1
  have r2 : Vals (V.ref (s1.heap.objs.size + 1) :: vs) (Value.ref (s1.heap.objs.size + 1) :: us) := .cons rfl r
  have hl : (Value.ref (s1.heap.objs.size + 1) :: us ++ []).length = ps.length := by
    rw [List.append_nil, ← r2.length, F.len _ _ _ _ hq]
  have b2 := b _ (Value.ref (s1.heap.objs.size + 1) :: us) I2.kIn hl
  rw [List.append_nil] at b2
  have hrk : Room (k + 1) X.A := hr.mono hk
  refine wpAny_call (make_map (f := f) I1.kIn M.makes M.init (beq_iff_eq.mp M.fn) (codeAny_mono (F.run _ X.stack _ _ ⟨Value.ref (s1.heap.objs.size + 1) :: us, []⟩ _ _ _ (E σ) (hrk.make C us []) (I2.env0.make C us []) b2 r2 hq) fun z s' hz => ?_))
  cases z with
  | error e => exact hx σ pins _ _ e s' I2 hz
  | ok fl =>
    cases fl with
    | ret u => obtain ⟨v, H', I3, rv, ev, q3⟩ := I2.after hz; subst ev; exact ⟨rv, ⟨V.ref (s1.heap.objs.size + 1), H', I3, rfl, q3⟩⟩
    | next => exact hz.elim
    | brk => exact hz.elim
    | cont => exact hz.elim
end calls
/-! ### one rule or another -/
section
variable {X : Cx} {e : Expr} {t t' : TE}
theorem pe_orr (h : PE X e t) (h' : PE X e t') : PE X e (fun σ H Q => t σ H Q ∨ t' σ H Q) := ⟨fun pins s σ H Q I hw => hw.elim (fun z => h.run pins s σ H Q I z) fun z => h'.run pins s σ H Q I z⟩
theorem pe_never : PE X e (fun _ _ _ => False) := ⟨fun _ _ _ _ _ _ z => z.elim⟩
theorem ps_neverS {st : Stmt} : PS X st (fun _ _ _ => False) := ⟨fun _ _ _ _ _ _ z => z.elim⟩
theorem pi_orr {tg it : Expr} {w w' : TI} (h : PI X tg it w) (h' : PI X tg it w') : PI X tg it (fun σ H R => w σ H R ∨ w' σ H R) := ⟨fun pins s σ H R I hw => hw.elim (fun z => h.run pins s σ H R I z) fun z => h'.run pins s σ H R I z⟩
def iA (K : PySem.W.Frag) (te : TE) : TI := fun σ H R => iList K te σ H R ∨ iTup K te σ H R ∨ iStr te σ H R
theorem pi_A {tg l : Expr} {te : TE} (h : PE X l te) : PI X tg l (iA X.K te) := pi_orr (pi_list h) (pi_orr (pi_tup h) (pi_str h))
theorem pi_never {tg it : Expr} : PI X tg it (fun _ _ _ => False) := ⟨fun _ _ _ _ _ _ z => z.elim⟩
end
section
variable {X : Cx}
/-- two lists put together, tracked, locked or written -/
def rCatR (K : PySem.W.Frag) : R2 := fun x y H Q => ∃ l b xs zs, x = .ref l ∧ y = .ref b ∧ SqL K H l xs ∧ SqL K H b zs ∧ xs.length + zs.length ≤ sizeLine ∧ ∀ p, H p = none → Q (.ref p) (upd H p (.lst (xs ++ zs)))
theorem op_catR : OpR X (binaryOp .Add) (rCatR X.K) := by
  rintro pins s σ H x y v u Q I rx ry ⟨l, b, xs, zs, rfl, rfl, hl, hb, hz, q⟩
  cases rx; cases ry
  obtain ⟨it1, r1, p1, z1⟩ := I.list hl
  obtain ⟨it2, r2, p2, z2⟩ := I.list hb
  have l1 := r1.length
  have l2 := r2.length
  obtain ⟨⟨c1, d1, t1, s1⟩, g1, rfl, n1, rfl⟩ := p1.isList
  obtain ⟨⟨c2, d2, t2, s2⟩, g2, rfl, n2, rfl⟩ := p2.isList
  refine concat_meets ⟨_, g1, rfl⟩ ⟨_, g2, rfl⟩ noFill_list_add seq_list_add PySem.F.slot_list_add PySem.F.entry_list_add (PySem.F.args_list_add_2 _ _) (list_addW l b it1.toArray it2.toArray n1 n2 d1 d2 s1 s2 (by simp only [List.size_toArray]; omega)) ⟨g1, g2, ?_⟩
  rw [show it1.toArray ++ it2.toArray = (it1 ++ it2).toArray by simp]
  exact ⟨.ref _, _, I.lnew (t' := s.toks) (r1.append r2) (by simp only [List.length_append]; omega), rfl, q _ I.fresh⟩
def rAddA (K : PySem.W.Frag) : R2 := fun x y H Q => (rI0 fun i j => V.int (i + j)) x y H Q ∨ (∃ i j, x = .str i ∧ y = .str j ∧ i.length + j.length ≤ sizeLine ∧ Q (.str (i ++ j)) H) ∨ rCatR K x y H Q ∨ rCatT K x y H Q
theorem op_addA : OpR X (binaryOp .Add) (rAddA X.K) := op_add.or (op_add_str.or (op_catR.or op_catT))
def rEqA (K : PySem.W.Frag) : R2 := fun x y H Q => rEq x y H Q ∨ rEqD K x y H Q
theorem op_eqA (hu : X.A.units + 64 < cLine) : OpR X (compareOp .Eq) (rEqA X.K) := op_eq.or (op_eqD hu)
def rNeA (K : PySem.W.Frag) : R2 := fun x y H Q => rNe x y H Q ∨ rNeD K x y H Q
theorem op_neA (hu : X.A.units + 64 < cLine) : OpR X (compareOp .NotEq) (rNeA X.K) := op_ne.or (op_neD hu)
def rInA (K : PySem.W.Frag) : R2 := fun x y H Q => rInS x y H Q ∨ rIn K false x y H Q
theorem op_inA : OpR X (compareOp .In) (rInA X.K) := op_inS.or op_in_seq
def rNotInA (K : PySem.W.Frag) : R2 := fun x y H Q => rNotInS x y H Q ∨ rIn K true x y H Q
theorem op_notInA : OpR X (compareOp .NotIn) (rNotInA X.K) := op_notInS.or op_notIn_seq
def rSlA (K : PySem.W.Frag) : V → Option Int → Option Int → Hp → VK → Prop := fun x lo hi H Q => rSlL K x lo hi H Q ∨ rSlT K x lo hi H Q ∨ C8.rSlX x lo hi H Q
theorem sl_A : SlR X (rSlA X.K) := sl_list.or (sl_tup.or C8.sl_txt)
def gTA (K : PySem.W.Frag) (n : Nat) (t : TGs) : TG := fun v σ H Q => gTup K n t v σ H Q ∨ gLst K n t v σ H Q
theorem pg_tupA {pos : Pos} {es : List Expr} {k : Nat} {t : TGs} {n : Nat} (hc : X.calm = true) (h : PGs X es t) (hn : (assignEach es X.env).length = n := by rfl) (hst : (assignEach es X.env).findIdx? (·.1) = none := by rfl) : PG X (.Tuple es k pos) (gTA X.K n t) :=
  ⟨fun pins s σ H v u Q I r hw => hw.elim (fun z => (pg_tup hc h hn hst).run pins s σ H v u Q I r z) fun z => (pg_lst hc h hn hst).run pins s σ H v u Q I r z⟩
end
/-! ### own exceptions: the class by one Bool, made, read, asked of -/
def eqB {α : Type} [DecidableEq α] (a b : α) : Bool := decide (a = b)
def shapeX (K : PySem.W.Frag) (C : Addr) : Bool :=
  match K.lookup C with
  | some ⟨.type "type", _, .cls cd, sl⟩ =>
    match cd.mro, sl.toList with
    | .ref D :: rest, [_, _, _, _, some (.builtin b), _] => eqB D C && eqB b "ValueError.__new__" && eqB cd.hasDel false && cd.hasDict && PySem.HandSPX.refsVE rest
    | _, _ => false
  | _ => false
theorem shapeX_ok {K : PySem.W.Frag} {C : Addr} (h : shapeX K C = true) : ∃ nm q N bs bm sn sub ab col dd k0 k1 k2 k3 k5,
    K.lookup C = some (excClassObj nm q C N bs bm true sn sub ab col dd k0 k1 k2 k3 k5 "ValueError.__new__") ∧ PySem.HandSPX.refsVE bm = true := by
  unfold shapeX at h
  split at h
  · rename_i dd cd sl ho
    split at h
    · rename_i D bm k0 k1 k2 k3 b k5 hm hs
      simp only [Bool.and_eq_true, eqB, decide_eq_true_eq] at h
      obtain ⟨⟨⟨⟨rfl, rfl⟩, hdel⟩, hd⟩, hr⟩ := h
      obtain ⟨nm, bs, mro, ns, qn, hdct, sn, sub, ab, col, del⟩ := cd
      dsimp only at hm hdel hd
      subst hm hdel hd
      obtain ⟨l⟩ := sl
      dsimp only at hs
      subst hs
      exact ⟨nm, qn, ns, bs, bm, sn, sub, ab, col, dd, k0, k1, k2, k3, k5, ho, hr⟩
    · cases h
  · cases h
/-- all that is asked of an own exception's class -/
def excB (K : PySem.W.Frag) (C : Addr) : Bool := shapeX K C && (eqB (PySem.W.findIn K (.ref C) "__setattr__") (some (some (.builtin "object.__setattr__"))) && (eqB (PySem.W.subIn K (.ref C) (.type "BaseException")) (some true) && (eqB (PySem.W.typeIn K (.ref C)) (some (.type "type")) &&
  (PySem.W.keepIn K (.ref C) && (xfB K C && (eqB (PySem.W.findIn K (.ref C) "__class__") (some (some (.builtin "object.__class__"))) && (eqB (PySem.W.specialIn K (.builtin "object.__class__") "__get__") (some (some (.builtin "getset_descriptor.__get__"))) &&
  (eqB (PySem.W.takesIn K (.builtin "object.__class__")) (some true) && eqB (PySem.W.mroIn K C (.type "object")) (some true)))))))))
structure ExC (K : PySem.W.Frag) (C : Addr) : Prop where
  o : OexC K C
  x : XfC K C
  c : ExcC K C
theorem bA {a b : Bool} (h : (a && b) = true) : a = true ∧ b = true := Bool.and_eq_true_iff.mp h
theorem eqB_ok {α : Type} [DecidableEq α] {a b : α} (h : eqB a b = true) : a = b := of_decide_eq_true h
theorem excB_ok {K : PySem.W.Frag} {C : Addr} (h : excB K C = true) : ExC K C := by
  obtain ⟨a1, h⟩ := bA h
  obtain ⟨a2, h⟩ := bA h
  obtain ⟨a3, h⟩ := bA h
  obtain ⟨a4, h⟩ := bA h
  obtain ⟨a5, h⟩ := bA h
  obtain ⟨a6, h⟩ := bA h
  obtain ⟨a7, h⟩ := bA h
  obtain ⟨a8, h⟩ := bA h
  obtain ⟨a9, a10⟩ := bA h
  have x := xfB_ok a6
  exact ⟨⟨shapeX_ok a1, eqB_ok a2, eqB_ok a3, eqB_ok a4, a5⟩, x, ⟨x.ga, x.gg, eqB_ok a3, x.hdC, eqB_ok a7, eqB_ok a8, eqB_ok a9, eqB_ok a10⟩⟩
/-- isinstance of a caught exception that has its own dict -/
def rIsX (K : PySem.W.Frag) (a : Addr) (cls : Value) (d : Option Addr) : List V → Hp → VK → Prop := fun xs H Q => ∃ (D dd : Addr) (fs : List (Str × V)) (c : V) (cv : Value) (b : Bool), cls = .ref D ∧ d = some dd ∧ H dd = some (.xd fs) ∧ ExC K D ∧
  xs = [.ref a, c] ∧ (∀ u, RelV c u → u = cv) ∧ PySem.W.kitOne K (.ref D) cv = some b ∧ Q (.bl b) H
theorem call_isX {X : Cx} {a : Addr} {cls : Value} {d : Option Addr} {oe : Obj} {pn : List (Addr × Obj)} (hz : Zc cls d oe) (hf : ∃ vs, oe.data = .fields vs) : CallR (X.suite a ((a, oe) :: pn)) (.builtin "isinstance") (rIsX X.K a cls d) := by
  rintro pins s σ H xs us Q I r ⟨D, dd, fs, c, cv, b, rfl, rfl, hd, T, rfl, hcv, e, q⟩
  obtain ⟨u, v, rfl, ru, rv⟩ := vals2 r
  cases ru
  obtain rfl := hcv _ rv
  obtain ⟨hat, _⟩ := I.pin (a, oe) (List.mem_append.mpr (.inl List.mem_cons_self))
  obtain ⟨vs, hvs⟩ := hf
  have hx : ObjOk X.prog X.w H s.heap dd (.xd fs) := I.hok dd _ hd
  obtain ⟨mA, hns, _⟩ := hx
  obtain ⟨od, ho, _⟩ := lookIn_ns hns
  have J : PySem.W.InstAt s.heap a oe D (some od) := ⟨hat, hz.1, by unfold PySem.W.notCls; rw [hvs], by rw [hz.2]; exact ho⟩
  have hcl : (PySem.W.clsIn X.K D).isSome = true := by
    obtain ⟨cd, hc, _⟩ := PySem.W.any_some T.c.hd
    rw [hc]; rfl
  exact PySem.W.kia_one (PySem.W.kitx_exc hcl T.c.hg T.c.hk T.c.hs T.c.ha T.c.hn T.c.ht T.c.hm) I.kIn J e (fun z => nomatch z) fun tk => ⟨.bl b, H, I.kept (t' := tk) fun _ _ z => z, rfl, q⟩
/-- a field of a caught exception -/
def tXA (K : PySem.W.Frag) (a : Addr) (cls : Value) (d : Option Addr) (f : Str) (te : TE) : TE := fun σ H Q => ∃ C, ExC K C ∧ PySem.W.findIn K (.ref C) f = some none ∧ tXf a cls d C f te σ H Q
theorem pe_xA {X : Cx} {a : Addr} {oe : Obj} {cls : Value} {d : Option Addr} {pn : List (Addr × Obj)} {e : Expr} {te : TE} {pos : Pos} {n : Str} (hz : Zc cls d oe) (hf : ∃ vs, oe.data = .fields vs) (he : PE (X.suite a ((a, oe) :: pn)) e te)
    (hb : attributeBase e n X.env (eval e X.env) = eval e X.env := by rfl) : PE (X.suite a ((a, oe) :: pn)) (.Attribute e n pos) (tXA X.K a cls d n te) :=
  ⟨fun pins s σ H Q I ⟨_, T, hn, h⟩ => (pe_xf T.x hn hz hf he hb).run pins s σ H Q I h⟩
/-! ### made: the fields that the class's own __init__ gives -/
def spX (C : Addr) (flds : List V → Option (List (Str × V))) : Sp := fun vs H Q _ => ∃ (a : Addr) (ws : List V) (fs : List (Str × V)), vs = .ref a :: ws ∧ flds ws = some fs ∧ H a = some (exo a C none) ∧
  ∀ (d : Addr) (H' : Hp), H d = none → d ≠ a → H' d = some (exd d fs) → H' a = some (exo a C (some d)) → (∀ b, b ≠ a → b ≠ d → H' b = H b) → Q .non H'
structure Exk (P : Program) (w : World) (K : PySem.W.Frag) (mg : Str → Option Value) (base : Heap) (k : Nat) (x : Str) (C : Addr) (flds : List V → Option (List (Str × V))) : Prop where
  ex : ∃ (fI : Addr) (fd : FuncData) (ps : List Str), ExC K C ∧ PySem.W.findIn K (.ref C) "__init__" = some (some (.ref fI)) ∧ PySem.W.typeIn K (.ref fI) = some (.type "function") ∧
    FnOk P w K mg base CX0 k fI fd ps (spX C flds) ∧ mg x = some (.ref C) ∧ Binds K fd ps []
/-- behind the arguments: the fields, and what is wished of any heap with the new error's dict -/
theorem mkA_in {C : Addr} {flds : List V → Option (List (Str × V))} {vs : List V} {H1 : Hp} {Q : XK} {fs : List (Str × V)} (hf : flds vs = some fs) (hl : vs.length ≤ 1000)
    (k : ∀ (d : Addr) (H2 : Hp), H1 d = none → Same H1 H2 → H2 d = some (.xd fs) → Q (.ref C) (some d) H2) :
    vs.length ≤ 1000 ∧ ∀ a, H1 a = none → spX C flds (.ref a :: (vs ++ [])) (upd H1 a (exo a C none)) (fun v H2 => v = .non ∧ ∃ (d : Addr) (fs : List (Str × V)), H2 a = some (exo a C (some d)) ∧ H2 d = some (exd d fs) ∧ H1 d = none ∧ Q (.ref C) (some d) (upd (del H2 a) d (.xd fs))) (fun _ _ _ => False) := by
  refine ⟨hl, fun a ha => ⟨a, vs, fs, by rw [List.append_nil], hf, upd_same, fun d H' hd hne e1 e2 kp => ?_⟩⟩
  rw [upd_ne hne] at hd
  refine ⟨rfl, d, fs, e2, e1, hd, k d _ hd (fun b o hb => ?_) upd_same⟩
  have b1 : b ≠ d := ne_of_none hb hd
  have b2 : b ≠ a := ne_of_none hb ha
  rw [upd_ne b1, del_ne b2, kp b b2 b1, upd_ne b2]
  exact hb
theorem pass0F {X : Cx} : Passes CX0 X (fun _ _ _ => False) := fun _ _ _ _ _ _ _ h => h.elim
theorem pmk_A {X : Cx} {k j : Nat} {x : Str} {C : Addr} {flds : List V → Option (List (Str × V))} {e : Expr} {es : List Expr} {ta : TA} {p pos : Pos} (c : Exk X.prog X.w X.K X.mg X.base k x C flds) (hr : Room j X.A) (hk : k + 1 ≤ j) (hg : Gl X x) (ha : PA X (e :: es) ta)
    (hdb : NotDbg x := by decide) (he : StarOk X e es := by rfl) (hpl : NoStars X pos es := by rfl) :
    PMk X (.Call (.Name x p) (e :: es) [] pos) (tMkO C (spX C flds) [] ta) := by
  obtain ⟨fI, fd, ps, T, i, ti, F, hm, b⟩ := c.ex
  exact pmk_oex T.o i ti F (hr.mono hk) b .nil pass0F hg hm ha hdb he hpl
/-! ### max(ints, default = an int) -/
section
variable {w : World} {prog : Program} {A : Around} {I : Addr} {fp wr : List Addr} {R : Result → Shared → Prop} {n : Nat} {P : Nat → Value → Prop} {St : Nat → Heap → Prop}
theorem loopN : (toString "max" ++ toString ".loop" : String) = "max.loop" := by decide
/-- the loop of max, whatever keywords it carries: an item is held -/
theorem max_on (kw : List (Str × Value)) (Wk : Walks prog w A.in1 I fp wr n P St) (bb : Nat → Nat → Bool) (cm : CmpOf prog w A.in1 .Gt P bb) (L : Addr) (nf : L ∉ fp) :
    ∀ (m j : Nat) (s : Shared) (u : Value) (c : Nat), m + (j + 1) = n → St (j + 1) s.heap → P (argBest bb j) u → s.heap.get? L = some ⟨.type "list", none, .seq #[u, u] c, #[]⟩ →
    (∀ v g tk, P (argBest bb (n - 1)) v → (∀ b o, b ∉ wr → b ≠ L → s.heap.get? b = some o → g.get? b = some o) → R (.ok (.ret v)) { s with heap := g, toks := tk }) →
    codeAny (model prog w) A (.builtin "max.loop" ⟨[.ref I, .none, .ref L], kw⟩) R s := by
  have nw : L ∉ wr := fun z => nf (Wk.sub _ z)
  intro m
  induction m with
  | zero =>
    intro j s u c e st pu hL k
    have e' : j + 1 = n := by omega
    refine codeAny_builtin F.entry_max_loop (by
      rw [Around.under_plainId F.plain_max_loop _]
      show wpAny _ A.in1 (seqItems? (.ref L) >>= _) _ _ s
      refine wpAny_bind (wpAny_seqItems hL rfl ?_); show wpAny _ A.in1 (tryCatch (pyNext (.ref I)) _ >>= _) _ _ s
      refine wpAny_bind (wpAny_tryCatch (Wk.done s _ _ (e' ▸ st) fun g tk kp => ?_))
      have hL' := kp L _ nw hL
      show wpAny _ A.in1 (updateSeq L (fun _ => #[]) >>= _) _ _ _
      exact wpAny_bind (wpAny_updateSeq hL' rfl (wpAny_bind (wpAny_letGo (wpAny_pure (k u _ tk (by rw [← e']; exact pu) fun b o h1 h2 z => (Heap.get?_update_other _ _ (Ne.symm h2)).trans (kp b o h1 z)))))))
  | succ m ih =>
    intro j s u c e st pu hL k
    have lt : j + 1 < n := by omega
    refine codeAny_builtin F.entry_max_loop (by
      rw [Around.under_plainId F.plain_max_loop _]
      show wpAny _ A.in1 (seqItems? (.ref L) >>= _) _ _ s
      refine wpAny_bind (wpAny_seqItems hL rfl ?_); show wpAny _ A.in1 (tryCatch (pyNext (.ref I)) _ >>= _) _ _ s
      refine wpAny_bind (wpAny_tryCatch (Wk.item (j + 1) s _ _ lt st fun v g tk pv st' kp => ?_))
      have hL' := kp L _ nw hL
      show wpAny _ A.in1 (tryCatch (holding [v, v] (richCompare .Gt v u >>= _)) _ >>= _) _ _ _
      refine wpAny_bind (wpAny_tryCatch (wpAny_holding (wpAny_bind (cm (j + 1) (argBest bb j) v u _ _ _ pv pu (wpAny_bind (wpAny_holding (wpAny_truthy_bool (wpAny_bind (wpAny_letGo (wpAny_pure ?_))))))))))
      cases hb : bb (j + 1) (argBest bb j) with
      | true =>
        simp only [if_true]
        refine wpAny_bind (wpAny_updateSeq hL' rfl (wpAny_bind (wpAny_letGo ?_)))
        rw [loopN]
        refine wpAny_pure ⟨plainId_quiet F.plain_max_loop _, ih (j + 1) _ v _ (by omega) (Wk.frame _ _ _ st' fun b hbf o z => ?_) (by simp only [argBest, hb, if_true]; exact pv) (Heap.get?_update_self _ hL' rfl) fun v' g' tk' p' kp' => ?_⟩
        · exact (Heap.get?_update_other _ _ (fun y : L = b => nf (y ▸ hbf))).trans z
        · exact k v' g' tk' p' fun b o h1 h2 z => kp' b o h1 h2 ((Heap.get?_update_other _ _ (Ne.symm h2)).trans (kp b o h1 z))
      | false =>
        simp only [Bool.false_eq_true, if_false]
        refine wpAny_bind (wpAny_letGo ?_)
        rw [loopN]
        exact wpAny_pure ⟨plainId_quiet F.plain_max_loop _, ih (j + 1) _ u c (by omega) st' (by simp only [argBest, hb, Bool.false_eq_true, if_false]; exact pu) hL' fun v' g' tk' p' kp' => k v' g' tk' p' fun b o h1 h2 z => kp' b o h1 h2 (kp b o h1 z)⟩)
/-- .. from its first turn, with a default -/
theorem max_at (d : Value) (Wk : Walks prog w A.in1 I fp wr n P St) (bb : Nat → Nat → Bool) (cm : CmpOf prog w A.in1 .Gt P bb) (L : Addr) (nf : L ∉ fp) {s : Shared} {c : Nat} (st : St 0 s.heap) (hL : s.heap.get? L = some ⟨.type "list", none, .seq #[] c, #[]⟩)
    (k0 : n = 0 → ∀ g tk, (∀ b o, b ∉ wr → b ≠ L → s.heap.get? b = some o → g.get? b = some o) → R (.ok (.ret d)) { s with heap := g, toks := tk })
    (k : 0 < n → ∀ v g tk, P (argBest bb (n - 1)) v → (∀ b o, b ∉ wr → b ≠ L → s.heap.get? b = some o → g.get? b = some o) → R (.ok (.ret v)) { s with heap := g, toks := tk }) :
    codeAny (model prog w) A (.builtin "max.loop" ⟨[.ref I, .none, .ref L], [("default", d)]⟩) R s := by
  have nw : L ∉ wr := fun z => nf (Wk.sub _ z)
  refine codeAny_builtin F.entry_max_loop (by
    rw [Around.under_plainId F.plain_max_loop _]
    show wpAny _ A.in1 (seqItems? (.ref L) >>= _) _ _ s
    refine wpAny_bind (wpAny_seqItems hL rfl ?_); show wpAny _ A.in1 (tryCatch (pyNext (.ref I)) _ >>= _) _ _ s
    by_cases h0 : n = 0
    · subst h0
      refine wpAny_bind (wpAny_tryCatch (Wk.done s _ _ st fun g tk kp => ?_))
      exact wpAny_bind (wpAny_rule (wpAny_pure (k0 rfl g tk fun b o h1 _ z => kp b o h1 z)))
    · have hn : 0 < n := Nat.pos_of_ne_zero h0
      refine wpAny_bind (wpAny_tryCatch (Wk.item 0 s _ _ hn st fun v g tk pv st' kp => ?_))
      have hL' := kp L _ nw hL
      show wpAny _ A.in1 (updateSeq L (fun _ => #[v, v]) >>= _) _ _ _
      refine wpAny_bind (wpAny_updateSeq hL' rfl ?_)
      rw [loopN]
      refine wpAny_pure ⟨plainId_quiet F.plain_max_loop _, max_on _ Wk bb cm L nf (n - 1) 0 _ v _ (by omega) (Wk.frame _ _ _ st' fun b hbf o z => ?_) pv (Heap.get?_update_self _ hL' rfl) fun v' g' tk' p' kp' => ?_⟩
      · exact (Heap.get?_update_other _ _ (fun y : L = b => nf (y ▸ hbf))).trans z
      · exact k hn v' g' tk' p' fun b o h1 h2 z => kp' b o h1 h2 ((Heap.get?_update_other _ _ (Ne.symm h2)).trans (kp b o h1 z)))
end
section
variable {w : World} {prog : Program} {s : Shared} {A : Around} {E : Value → Shared → Prop} {l : Addr} {its : List Value} {ns : List Int} {Q : Value → Shared → Prop}
theorem argsD (a d : Value) : argsOk "max" ⟨[a], [("default", d)]⟩ := by unfold argsOk; kernel_rfl
theorem max_def (hh : A.handled = none) (hl : s.heap.IsList l its.toArray) (hi : IntsAre its ns) (d : Value)
    (k0 : ns = [] → ∀ g tk, (∀ b o, s.heap.get? b = some o → g.get? b = some o) → Q d { s with heap := g, toks := tk })
    (k : ns ≠ [] → ∀ g tk M t', (∀ b o, s.heap.get? b = some o → g.get? b = some o) → M ∈ ns → (∀ a, a ∈ ns → a ≤ M) → Q (.int M t') { s with heap := g, toks := tk }) :
    wpAny (model prog w) A (call (.builtin "max") [.ref l] [("default", d)]) Q E s := by
  obtain ⟨xs, e⟩ := hi.allInts.items
  have hn : numsOf (intItems xs).toList = ns := (congrArg (fun a : Array Value => numsOf a.toList) e).symm.trans hi.numsOf
  rw [nums_intItems] at hn
  subst hn
  rw [e] at hl
  refine wpAny_call (codeAny_call_builtin F.plain_max F.entry_max ?_)
  have chk : checkBuiltinCall "max" ⟨[.ref l], [("default", d)]⟩ = pure () := by
    have ha := argsD (.ref l) d
    simp only [checkBuiltinCall, F.kind_max]
    cases hs : Manifest.signature? "max" with
    | none => rfl
    | some sg => simp only [argsOk, hs] at ha; exact ha
  rw [chk]
  refine wpAny_pure ?_
  show wpAny _ A.in1 (Builtin.Builtins.bindParams "max" ["key", "default"] 0 ⟨[], [("default", d)]⟩ >>= _) _ _ s
  refine wpAny_bind (wpAny_of_eq (show Builtin.Builtins.bindParams "max" ["key", "default"] 0 ⟨[], [("default", d)]⟩ = pure [none, some d] from rfl) ?_)
  refine wpAny_bind (wpAny_pure (wpAny_bind ?_))
  refine iter_intList (prog := prog) (w := w) (A := A.in1) hl fun s₂ e2 st hfp hlI => wpAny_bind (wpAny_newObj_type ?_)
  subst e2
  rw [loopN]
  have nf : (s.heap.push { cls := .type "list_iterator", data := .fields #[.ref l, .int 0 0] }).objs.size ∉ [s.heap.objs.size, l] := fun z => Nat.lt_irrefl _ (hfp _ z)
  have Wk := Walks.list (prog := prog) (w := w) (A := A.in1) hh s.heap.objs.size l hlI (intItems xs)
  refine wpAny_pure ⟨plainId_quiet F.plain_max_loop _, max_at d Wk _ (CmpOf.ints_gt (numAt xs) (fun _ _ => intItems_at)) _ nf (Wk.frame 0 _ _ st fun b _ o z => Heap.get?_push_of_some _ z) (Heap.get?_push_size _ rfl) (fun h0 g tk kp => ?_) (fun h0 v g tk hv kp => ?_)⟩
  · have hx : xs.toList.map (·.1) = [] := by
      have : xs.size = 0 := by simpa [intItems] using h0
      rw [Array.size_eq_zero_iff.mp this]; rfl
    exact k0 hx g tk fun b o z => kp b o (fun y => by
      have : b = s.heap.objs.size := by simpa using y
      exact absurd (Heap.lt_size z) (by rw [this]; exact Nat.lt_irrefl _)) (fun y => absurd (Heap.lt_size z) (by rw [y]; exact Nat.not_lt.mpr (by rw [Heap.size_push]; exact Nat.le_succ _))) (Heap.get?_push_of_some _ (Heap.get?_push_of_some _ z))
  · have hsz : 0 < xs.size := by simpa [intItems] using h0
    have hv' : (intItems xs)[argBest (fun i j => decide (numAt xs i > numAt xs j)) (xs.size - 1)]? = some v := by simpa [intItems] using hv
    obtain ⟨t, rfl⟩ := intItems_at hv'
    obtain ⟨g1, g2⟩ := argBest_gt (numAt xs) (xs.size - 1)
    refine k (fun z => ?_) g tk _ t (fun b o z => kp b o (fun y => ?_) (fun y => absurd (Heap.lt_size z) (by rw [y]; exact Nat.not_lt.mpr (by rw [Heap.size_push]; exact Nat.le_succ _))) (Heap.get?_push_of_some _ (Heap.get?_push_of_some _ z))) ?_ fun a ha => ?_
    · have := congrArg List.length z
      simp at this
      rw [this] at hsz; exact absurd hsz (by decide)
    · have : b = s.heap.objs.size := by simpa using y
      exact absurd (Heap.lt_size z) (by rw [this]; exact Nat.lt_irrefl _)
    · rw [numAt_eq]; exact PySem.getD_mem (by simp only [List.length_map, Array.length_toList]; omega)
    · obtain ⟨j, hj, rfl⟩ := mem_getD ha
      simp only [List.length_map, Array.length_toList] at hj
      rw [← numAt_eq]; exact g2 j (by omega)
end
section
variable {X : Cx}
def rMaxD (K : PySem.W.Frag) : List V → List V → Hp → VK → Prop := fun vs zs H Q => ∃ (a : Addr) (ns : List Int) (d : Int), vs = [.ref a] ∧ zs = [.int d] ∧ SqL K H a (ns.map V.int) ∧ (ns = [] → Q (.int d) H) ∧ (∀ m, ns ≠ [] → m ∈ ns → (∀ y, y ∈ ns → y ≤ m) → Q (.int m) H)
theorem cr_maxD (hc : X.calm = true) : CallRK X (.builtin "max") ["default"] (rMaxD X.K) := by
  rintro pins s σ H vs zs us ws Q I r rz ⟨a, ns, d, rfl, rfl, hS, k0, k⟩
  obtain ⟨u, rfl, ru⟩ := vals1 r
  cases ru
  obtain ⟨z, rfl, rz'⟩ := vals1 rz
  obtain ⟨td, rfl⟩ := rz'
  obtain ⟨its, r', pl, hz⟩ := I.list hS
  refine max_def (I.ok.hd hc) pl.isList (Vals.ints r') _ (fun e g tk kp => ⟨.int d, H, I.kept (t' := tk) kp, ⟨_, rfl⟩, k0 e⟩) (fun e g tk m t' kp h1 h2 => ⟨.int m, H, I.kept (t' := tk) kp, ⟨_, rfl⟩, k m e h1 h2⟩)
end
/-! ### readings, one step at a time -/
section
variable {σ : L2.St} {H : Hp} {Q : VK} {R : Bool → Hp → Prop} {D : Ends} {K : PySem.W.Frag} {x y v : V}
theorem s_var {i : Nat} (h : σ[i]? = some (some v)) (k : Q v H) : tVar i σ H Q := ⟨v, h, k⟩
theorem s_c (k : Q v H) : tC v σ H Q := k
theorem s_op {r : R2} {ta tb : TE} (k : ta σ H fun x H1 => tb σ H1 fun y H2 => r x y H2 Q) : tOp r ta tb σ H Q := k
theorem s_un {r : V → Hp → VK → Prop} {ta : TE} (k : ta σ H fun x H1 => r x H1 Q) : tUn r ta σ H Q := k
theorem s_test {t : TE} (k : t σ H fun x H' => ∃ b, x = .bl b ∧ R b H') : tTest t σ H R := k
theorem s_B {t : TE} (k : t σ H fun x H' => ∃ b, x = .bl b ∧ R b H') : tB t σ H R := k
theorem s_bl {b : Bool} {P : Bool → Prop} (k : P b) : ∃ c, V.bl b = .bl c ∧ P c := ⟨b, rfl, k⟩
theorem s_not {t : TT} (k : t σ H fun c H1 => R (!c) H1) : tNot t σ H R := k
theorem s_and {t u : TT} (k : t σ H fun c H1 => if c = true then u σ H1 R else R false H1) : tAnd t u σ H R := k
theorem s_or {t u : TT} (k : t σ H fun c H1 => if c = true then R true H1 else u σ H1 R) : tOr t u σ H R := k
theorem s_andV {ta tb : TE} (k : ta σ H fun x H1 => ∃ c, x = .bl c ∧ if c = true then tb σ H1 Q else Q (.bl false) H1) : tAndV ta tb σ H Q := k
theorem s_orV {ta tb : TE} (k : ta σ H fun x H1 => ∃ c, x = .bl c ∧ if c = true then Q (.bl true) H1 else tb σ H1 Q) : tOrV ta tb σ H Q := k
theorem s_notV {ta : TE} (k : ta σ H fun x H1 => ∃ c, x = .bl c ∧ Q (.bl (!c)) H1) : tNotV ta σ H Q := k
theorem s_ifE {t : TT} {ta tb : TE} (k : t σ H fun c H1 => if c = true then ta σ H1 Q else tb σ H1 Q) : tIf t ta tb σ H Q := k
theorem s_cons {ta : TE} {tr : TA} {P : List V → Hp → Prop} (k : ta σ H fun x H1 => tr σ H1 fun xs H2 => P (x :: xs) H2) : tCons ta tr σ H P := k
theorem s_nil {P : List V → Hp → Prop} (k : P [] H) : tNil σ H P := k
theorem s_cb {r : List V → Hp → VK → Prop} {t : TA} (k : t σ H fun vs H1 => r vs H1 Q) : tCB r t σ H Q := k
theorem s_call {sp : Sp} {E : L2.St → XK} {t : TA} (k : t σ H fun vs H1 => sp vs H1 Q (E σ)) : tCallS sp E t σ H Q := k
theorem s_seq {t u : TS} (k : t { D with nx := u D } σ H) : tSeq t u D σ H := k
theorem s_asg {te : TE} {g : TG} (k : te σ H fun x H1 => g x σ H1 D.nx) : tAsg te g D σ H := k
theorem s_gn {i : Nat} {P : L2.St → Hp → Prop} (k : P (σ.set i (some v)) H) : gName i v σ H P := k
theorem s_ifS {c : TT} {t u : TS} (k : c σ H fun b H1 => if b = true then t D σ H1 else u D σ H1) : tIfS c t u D σ H := k
theorem s_ret {te : TE} (k : te σ H D.rt) : tRet te D σ H := k
theorem s_retN (k : D.rt .non H) : tRetN D σ H := k
theorem s_drop {te : TE} (k : te σ H fun _ H1 => D.nx σ H1) : tDrop te D σ H := k
theorem s_next (k : D.nx σ H) : tNext D σ H := k
theorem s_tup {t : TA} (k : t σ H fun xs H1 => xs.length ≤ sizeLine ∧ ∀ p, H1 p = none → Q (.ref p) (upd H1 p (.tup xs))) : tTup t σ H Q := k
theorem s_lst {t : TA} (k : t σ H fun xs H1 => xs.length ≤ sizeLine ∧ ∀ p, H1 p = none → Q (.ref p) (upd H1 p (.lst xs))) : tLst t σ H Q := k
theorem s_chain {r r' : R2} {ta tb tc : TE} (k : ta σ H fun x H1 => tb σ H1 fun y H2 => r x y H2 fun z H3 => ∃ b, z = .bl b ∧ (if b = true then tc σ H3 fun u H4 => r' y u H4 Q else Q (.bl false) H3)) : tChain r r' ta tb tc σ H Q := k
theorem s_sl {r : V → Option Int → Option Int → Hp → VK → Prop} {te : TE} {tl th : TO} (k : te σ H fun x H1 => tl σ H1 fun l H2 => th σ H2 fun u H3 => r x l u H3 Q) : tSl r te tl th σ H Q := k
theorem s_no {P : Option Int → Hp → Prop} (k : P none H) : tNoPart σ H P := k
theorem s_part {t : TE} {P : Option Int → Hp → Prop} (k : t σ H fun x H1 => ∃ i, x = .int i ∧ P (some i) H1) : tPart t σ H P := k
theorem s_ib {i : Int} {P : Int → Prop} (k : P i) : ∃ c, V.int i = .int c ∧ P c := ⟨i, rfl, k⟩
theorem s_fld {ta : TE} {f : Str} (k : ta σ H fun x H1 => ∃ a C dx fs v, x = .ref a ∧ H1 a = some (.ins C dx fs) ∧ Cls K C ∧ NoAttr K C f ∧ fs.lookup f = some v ∧ Q v H1) : tFld K ta f σ H Q := k
theorem s_bm {T : String} {r : V → List V → Hp → VK → Prop} {to : TE} {t : TA} (k : to σ H fun x H1 => tyV K T x H1 ∧ t σ H1 fun xs H2 => r x xs H2 Q) : tBM K T r to t σ H Q := k
/-! by values -/
theorem s_I0 {g : Int → Int → V} {i j : Int} (k : Q (g i j) H) : rI0 g (.int i) (.int j) H Q := ⟨i, j, rfl, rfl, k⟩
theorem s_I {C : Int → Int → Prop} {g : Int → Int → V} {i j : Int} (c : C i j) (k : Q (g i j) H) : rI C g (.int i) (.int j) H Q := ⟨i, j, rfl, rfl, c, k⟩
theorem s_addI {i j : Int} (k : Q (.int (i + j)) H) : rAddA K (.int i) (.int j) H Q := .inl ⟨i, j, rfl, rfl, k⟩
theorem s_addS {i j : Str} (c : i.length + j.length ≤ sizeLine) (k : Q (.str (i ++ j)) H) : rAddA K (.str i) (.str j) H Q := .inr (.inl ⟨i, j, rfl, rfl, c, k⟩)
theorem s_addL {a b : Addr} {xs ys : List V} (ha : SqL K H a xs) (hb : SqL K H b ys) (c : xs.length + ys.length ≤ sizeLine) (k : ∀ p, H p = none → Q (.ref p) (upd H p (.lst (xs ++ ys)))) : rAddA K (.ref a) (.ref b) H Q := .inr (.inr (.inl ⟨a, b, xs, ys, rfl, rfl, ha, hb, c, k⟩))
theorem s_eq (h : scal x y = true) (k : Q (.bl (decide (x = y))) H) : rEqA K x y H Q := .inl ⟨h, k⟩
theorem s_ne (h : scal x y = true) (k : Q (.bl (!decide (x = y))) H) : rNeA K x y H Q := .inl ⟨h, k⟩
theorem s_eqD {d e : PyData} (hd : Dp K H x d) (he : Dp K H y e) (sd : SeqAt.shaped d = true) (se : SeqAt.shaped e = true) (k : Q (.bl (PyData.eqv d e)) H) : rEqA K x y H Q := .inr ⟨d, e, hd, he, sd, se, k⟩
theorem s_neD {d e : PyData} (hd : Dp K H x d) (he : Dp K H y e) (sd : SeqAt.shaped d = true) (se : SeqAt.shaped e = true) (k : Q (.bl (!PyData.eqv d e)) H) : rNeA K x y H Q := .inr ⟨d, e, hd, he, sd, se, k⟩
theorem s_in1 {c : Nat} {z : Str} (k : Q (.bl (decide (c ∈ z.cps.toList))) H) : rInA K (.str ⟨#[c]⟩) (.str z) H Q := .inl ⟨c, z, rfl, rfl, k⟩
theorem s_notin1 {c : Nat} {z : Str} (k : Q (.bl (!decide (c ∈ z.cps.toList))) H) : rNotInA K (.str ⟨#[c]⟩) (.str z) H Q := .inl ⟨c, z, rfl, rfl, k⟩
theorem s_ixS {z : Str} {i : Int} {c : Nat} (hl : z.length ≤ sizeLine) (h : atI z.cps.toList i = some c) (k : Q (.str ⟨#[c]⟩) H) : rIx K (.str z) (.int i) H Q := .inr (.inr ⟨z, i, c, rfl, rfl, hl, h, k⟩)
theorem s_ixL {a : Addr} {xs : List V} {i : Int} (hl : SqL K H a xs) (h : atI xs i = some v) (k : Q v H) : rIx K (.ref a) (.int i) H Q := .inl ⟨a, xs, i, v, rfl, rfl, hl, h, k⟩
theorem s_ixT {a : Addr} {xs : List V} {i : Int} (hl : SqT K H a xs) (h : atI xs i = some v) (k : Q v H) : rIx K (.ref a) (.int i) H Q := .inr (.inl ⟨a, xs, i, v, rfl, rfl, hl, h, k⟩)
theorem iteD {c A B : Prop} [Decidable c] (h1 : c → A) (h2 : ¬ c → B) : if decide c = true then A else B := by
  by_cases h : c
  · rw [if_pos (decide_eq_true h)]; exact h1 h
  · rw [if_neg (by simp [h])]; exact h2 h
theorem iteN {c A B : Prop} [Decidable c] (h1 : ¬ c → A) (h2 : c → B) : if (!decide c) = true then A else B := by
  by_cases h : c
  · rw [if_neg (by simp [h])]; exact h2 h
  · rw [if_pos (by simp [h])]; exact h1 h
theorem iteB {b : Bool} {A B : Prop} (h1 : b = true → A) (h2 : b = false → B) : if b = true then A else B := by
  cases b with
  | true => exact h1 rfl
  | false => exact h2 rfl
end
/-! heaps -/
section
variable {H H' : Hp} {p a : Addr} {o u : HO}
theorem up (h : H p = none) (e : H a = some u) : upd H p o a = some u := by
  rw [upd_ne (ne_of_none e h)]; exact e
theorem same_new (h : H p = none) : Same H (upd H p o) := fun b x e => up h e
theorem same_mut (e : Same H H') (h : H p = none) : Same H (upd H' p o) := fun b x q => by
  rw [upd_ne (ne_of_none q h)]; exact e b x q
theorem same_t {K : PySem.W.Frag} {xs : List V} (e : Same H H') (h : SqT K H a xs) : SqT K H' a xs := by
  rcases h with (h | ⟨o, h⟩) | h
  · exact .inl (.inl (e _ _ h))
  · exact .inl (.inr ⟨o, e _ _ h⟩)
  · exact .inr h
end
/-! ### a comprehension without a test, over what stands still -/
/-- a walk of n turns over what stands at H: turn i gives x with S i x behind it -/
structure Still (J : It) (H : Hp) (n : Nat) (S : Nat → V → Hp → Prop) : Prop where
  go : ∀ i H', Same H H' → i < n → J.go i H'
  yl : ∀ i x H' H'', Same H H' → i < n → J.yld i H' x H'' → Same H' H'' ∧ S i x H''
  st : ∀ H', Same H H' → J.stop n H'
theorem still_list {K : PySem.W.Frag} {H : Hp} {a : Addr} {xs : List V} (h : SqL K H a xs) : Still (Itl K a) H xs.length (fun i x _ => xs[i]? = some x) where
  go := fun i H' s hi => ⟨xs, xs[i], s.seq h, List.getElem?_eq_getElem hi⟩
  yl := fun i x H' H'' s hi y => ⟨y.1 ▸ Same.refl _, y.2 xs (s.seq h)⟩
  st := fun H' s => ⟨xs, s.seq h, Nat.le_refl _⟩
theorem still_tup {K : PySem.W.Frag} {H : Hp} {a : Addr} {xs : List V} (h : SqT K H a xs) : Still (Itt K a) H xs.length (fun i x _ => xs[i]? = some x) where
  go := fun i H' s hi => ⟨xs, xs[i], same_t s h, List.getElem?_eq_getElem hi⟩
  yl := fun i x H' H'' s hi y => ⟨y.1 ▸ Same.refl _, y.2 xs (same_t s h)⟩
  st := fun H' s => ⟨xs, same_t s h, Nat.le_refl _⟩
theorem still_str {H : Hp} {z : Str} : Still (Its z) H z.cps.toList.length (fun i x _ => ∃ c, z.cps.toList[i]? = some c ∧ x = .str ⟨#[c]⟩) where
  go := fun i H' s hi => by show i < z.cps.size; simpa using hi
  yl := fun i x H' H'' s hi y => by
    obtain ⟨e, c, h1, h2⟩ := y
    exact ⟨e ▸ Same.refl _, c, by simpa using h1, h2⟩
  st := fun H' s => by show z.cps.size ≤ _; simp
theorem still_rng {H : Hp} {lo : Int} {n : Nat} : Still (Itr lo n) H n (fun i x _ => x = .int (lo + i)) where
  go := fun i H' s hi => hi
  yl := fun i x H' H'' s hi y => ⟨y.1 ▸ Same.refl _, y.2⟩
  st := fun H' s => Nat.le_refl _
theorem still_enum {K : PySem.W.Frag} {H : Hp} {a : Addr} {xs : List V} (h : SqL K H a xs) : Still (Ite K a) H xs.length (fun i x H'' => ∃ T v, x = .ref T ∧ H'' T = some (.tup [.int (i : Nat), v]) ∧ xs[i]? = some v) where
  go := fun i H' s hi => ⟨xs, xs[i], s.seq h, List.getElem?_eq_getElem hi⟩
  yl := fun i x H' H'' s hi y => by
    obtain ⟨T, v, e1, e2, e3, e4⟩ := y
    subst e3
    exact ⟨same_new e2, T, v, e1, upd_same, e4 xs (s.seq h)⟩
  st := fun H' s => ⟨xs, s.seq h, Nat.le_refl _⟩
def LcW (J : It) (g : TG) (te : TE) (vs : List Nat) (σ : L2.St) (H1 : Hp) (Q : VK) : Prop :=
  ∀ D, H1 D = none → ∃ W : Nat → Nat → Hp → Prop, (∃ m, W 0 m (upd H1 D (.lst []))) ∧ ∀ i m H, W i m H → (J.stop i H ∧ Q (.ref D) H) ∨ (J.go i H ∧ ∃ Nx : Hp → Prop, (∀ H', Nx H' → ∃ m', m' < m ∧ W (i + 1) m' H') ∧
    ∀ x H', J.yld i H x H' → g x (wipe σ vs) H' fun σ2 H2 => wipe σ2 vs = wipe σ vs ∧ tYes σ2 H2 fun b H3 => if b = true then te σ2 H3 fun y H4 => ∃ acc, H4 D = some (.lst acc) ∧ acc.length < sizeLine ∧ Nx (upd H4 D (.lst (acc ++ [y]))) else Nx H3)
theorem tyes_to {σ : L2.St} {H : Hp} {P P' : Hp → Prop} (h : P H) : tYes σ H fun b H3 => if b = true then P H3 else P' H3 := h
theorem lc_all {J : It} {g : TG} {te : TE} {vs : List Nat} {σ : L2.St} {H1 : Hp} {Q : VK} {n : Nat} {S : Nat → V → Hp → Prop} (T : Still J H1 n S) (R : Addr → Nat → V → Hp → Prop) (hn : n ≤ 100000)
    (hR : ∀ D i y H H', (∀ b o, b ≠ D → H b = some o → H' b = some o) → R D i y H → R D i y H')
    (hs : ∀ D i x acc H', H1 D = none → i < n → S i x H' → Same H1 H' → H' D = some (.lst acc) → ∀ Q' : VK, (∀ y H'', Same H' H'' → R D i y H'' → Q' y H'') → g x (wipe σ vs) H' fun σ2 H2 => wipe σ2 vs = wipe σ vs ∧ te σ2 H2 Q')
    (k : ∀ D ys H', H1 D = none → Same H1 H' → H' D = some (.lst ys) → ys.length = n → (∀ i y, ys[i]? = some y → R D i y H') → Q (.ref D) H')
    (hg : ∀ x σ1 H' (P P' : L2.St → Hp → Prop), (∀ s h, P s h → P' s h) → g x σ1 H' P → g x σ1 H' P') : LcW J g te vs σ H1 Q := by
  intro D hD
  refine ⟨fun i m H => m = n - i ∧ i ≤ n ∧ Same H1 H ∧ ∃ ys, H D = some (.lst ys) ∧ ys.length = i ∧ ∀ j y, ys[j]? = some y → R D j y H, ⟨n, rfl, Nat.zero_le _, same_new hD, [], upd_same, rfl, fun j y e => by simp at e⟩, ?_⟩
  rintro i m H ⟨rfl, hi, s, ys, hy, hl, hr⟩
  by_cases hlt : i < n
  · refine .inr ⟨T.go i H s hlt, fun H' => i + 1 ≤ n ∧ Same H1 H' ∧ ∃ ys, H' D = some (.lst ys) ∧ ys.length = i + 1 ∧ ∀ j y, ys[j]? = some y → R D j y H', fun H' p => ⟨n - (i + 1), by omega, rfl, p.1, p.2⟩, fun x H' yl => ?_⟩
    obtain ⟨sx, hS⟩ := T.yl i x H H' s hlt yl
    replace hy := sx _ _ hy
    replace s := s.trans sx
    replace hr := fun j y ez => hR D j y H H' (fun b o _ q => sx b o q) (hr j y ez)
    refine hg _ _ _ _ _ (fun s2 h2 z => And.intro z.1 (tyes_to z.2)) (hs D i x ys H' hD hlt hS s hy _ fun y H'' e hy' => ?_)
    refine ⟨ys, e _ _ hy, Nat.lt_of_lt_of_le (by omega : ys.length < 100001) (by rw [sizeLine_eq]; decide), hlt, same_mut (s.trans e) hD, ys ++ [y], upd_same, by rw [List.length_append, hl]; rfl, fun j z ez => ?_⟩
    have kp : ∀ b o, b ≠ D → H'' b = some o → upd H'' D (.lst (ys ++ [y])) b = some o := fun b o hb q => by rw [upd_ne hb]; exact q
    by_cases hj : j < ys.length
    · rw [List.getElem?_append_left hj] at ez
      exact hR D j z H'' _ kp (hR D j z H' _ (fun b o _ q => e b o q) (hr j z ez))
    · rw [List.getElem?_append_right (Nat.le_of_not_lt hj)] at ez
      have h0 : j - ys.length = 0 := by
        cases hq : j - ys.length with
        | zero => rfl
        | succ q => rw [hq] at ez; simp at ez
      rw [h0] at ez
      have ey : y = z := by simpa using ez
      have ej : j = i := by omega
      subst ey ej
      exact hR D j y H'' _ kp hy'
  · have ei : i = n := by omega
    subst ei
    exact .inl ⟨T.st H s, k D ys H hD s hy hl hr⟩
def ForW (J : It) (g : TG) (tb : TS) (D : Ends) (σ : L2.St) (H1 : Hp) : Prop := ∃ W : Nat → Nat → L2.St → Hp → Prop, (∃ m, W 0 m σ H1) ∧ ∀ i m σ H, W i m σ H →
  (J.stop i H ∧ D.nx σ H) ∨ (J.go i H ∧ ∃ N : L2.St → Hp → Prop, (∀ σ' H', N σ' H' → ∃ m', m' < m ∧ W (i + 1) m' σ' H') ∧ ∀ x H', J.yld i H x H' → g x σ H' fun σ2 H2 => tb { D with nx := N, ct := N, bk := D.nx } σ2 H2)
theorem for_all {J : It} {g : TG} {tb : TS} {D : Ends} {σ : L2.St} {H : Hp} {n : Nat} {S : Nat → V → Hp → Prop} (T : Still J H n S) (Pv : Nat → L2.St → Hp → Prop) (hP : ∀ i σ' H' H'', Same H' H'' → Pv i σ' H' → Pv i σ' H'') (h0 : Pv 0 σ H)
    (hs : ∀ i x σ' H', i < n → S i x H' → Same H H' → Pv i σ' H' → g x σ' H' fun σ2 H2 => tb { D with nx := fun s h => Same H h ∧ Pv (i + 1) s h, ct := fun s h => Same H h ∧ Pv (i + 1) s h, bk := D.nx } σ2 H2)
    (hd : ∀ σ' H', Same H H' → Pv n σ' H' → D.nx σ' H') : ForW J g tb D σ H := by
  refine ⟨fun i m σ' H' => m = n - i ∧ i ≤ n ∧ Same H H' ∧ Pv i σ' H', ⟨n, rfl, Nat.zero_le _, Same.refl _, h0⟩, ?_⟩
  rintro i m σ' H' ⟨rfl, hi, s, p⟩
  by_cases hlt : i < n
  · refine .inr ⟨T.go i H' s hlt, fun s' h' => Same H h' ∧ Pv (i + 1) s' h', fun s' h' q => ⟨n - (i + 1), by omega, rfl, hlt, q⟩, fun x H'' yl => ?_⟩
    obtain ⟨sx, hS⟩ := T.yl i x H' H'' s hlt yl
    exact hs i x σ' H'' hlt hS (s.trans sx) (hP i σ' H' H'' sx p)
  · have ei : i = n := by omega
    subst ei
    exact .inl ⟨T.st H' s, hd σ' H' s p⟩
theorem s_for {wi : TI} {g : TG} {tb : TS} {D : Ends} {σ : L2.St} {H : Hp} (k : wi σ H fun J H1 => ForW J g tb D σ H1) : tFor wi g tb D σ H := k
theorem s_enum {K : PySem.W.Frag} {ta : TA} {σ : L2.St} {H : Hp} {R : It → Hp → Prop} (k : ta σ H fun vs H1 => ∃ a xs, vs = [.ref a] ∧ SqL K H1 a xs ∧ R (Ite K a) H1) : iEnum K ta σ H R := k
theorem s_gT {K : PySem.W.Frag} {n : Nat} {t : TGs} {a : Addr} {xs : List V} {σ : L2.St} {H : Hp} {P : L2.St → Hp → Prop} (h : SqT K H a xs) (hl : xs.length = n) (k : t xs σ H P) : gTA K n t (.ref a) σ H P := .inl ⟨a, xs, rfl, h, hl, k⟩
theorem s_gL {K : PySem.W.Frag} {n : Nat} {t : TGs} {a : Addr} {xs : List V} {σ : L2.St} {H : Hp} {P : L2.St → Hp → Prop} (h : SqL K H a xs) (hl : xs.length = n) (k : t xs σ H P) : gTA K n t (.ref a) σ H P := .inr ⟨a, xs, rfl, h, hl, k⟩
theorem s_gcons {t : TG} {u : TGs} {v : V} {r : List V} {σ : L2.St} {H : Hp} {P : L2.St → Hp → Prop} (k : t v σ H fun σ' H' => u r σ' H' P) : gCons t u (v :: r) σ H P := ⟨v, r, rfl, k⟩
theorem s_gnil {σ : L2.St} {H : Hp} {P : L2.St → Hp → Prop} (k : P σ H) : gNil [] σ H P := ⟨rfl, k⟩
/-- an error of one field, of two -/
def Err1 (C : Addr) (f : Str) (v : V) (E : XK) (H : Hp) : Prop := ∀ (d : Addr) (H' : Hp), H d = none → Same H H' → H' d = some (.xd [(f, v)]) → E (.ref C) (some d) H'
def Err2 (C : Addr) (f f' : Str) (v v' : V) (E : XK) (H : Hp) : Prop := ∀ (d : Addr) (H' : Hp), H d = none → Same H H' → H' d = some (.xd [(f', v'), (f, v)]) → E (.ref C) (some d) H'
theorem Err1.mono {C : Addr} {f : Str} {v : V} {E : XK} {H H' : Hp} (e : Err1 C f v E H) (s : Same H H') : Err1 C f v E H' := fun d H2 hd s2 x => e d H2 (s.free hd) (s.trans s2) x
theorem Err2.mono {C : Addr} {f f' : Str} {v v' : V} {E : XK} {H H' : Hp} (e : Err2 C f f' v v' E H) (s : Same H H') : Err2 C f f' v v' E H' := fun d H2 hd s2 x => e d H2 (s.free hd) (s.trans s2) x
/-! ### the rules with the written part told (within a comprehension's block it must not hang on the block) -/
section
variable {X : Cx} (K : PySem.W.Frag)
theorem oAdd (h : X.K = K := by rfl) : OpR X (binaryOp .Add) (rAddA K) := h ▸ op_addA
theorem oEq (hu : X.A.units + 64 < cLine) (h : X.K = K := by rfl) : OpR X (compareOp .Eq) (rEqA K) := h ▸ op_eqA hu
theorem oNe (hu : X.A.units + 64 < cLine) (h : X.K = K := by rfl) : OpR X (compareOp .NotEq) (rNeA K) := h ▸ op_neA hu
theorem oIn (h : X.K = K := by rfl) : OpR X (compareOp .In) (rInA K) := h ▸ op_inA
theorem oNotIn (h : X.K = K := by rfl) : OpR X (compareOp .NotIn) (rNotInA K) := h ▸ op_notInA
theorem oSl (h : X.K = K := by rfl) : SlR X (rSlA K) := h ▸ sl_A
theorem oIx (h : X.K = K := by rfl) : IxR X (rIx K) := h ▸ ix_seq
def rLenA (K : PySem.W.Frag) : List V → Hp → VK → Prop := fun xs H Q => ∃ x n, xs = [x] ∧ LenV K x H n ∧ Q (.int n) H
theorem oLen (h : X.K = K := by rfl) : CallR X (.builtin "len") (rLenA K) := h ▸ call_len
def rTupOf (K : PySem.W.Frag) : List V → Hp → VK → Prop := fun xs H Q => ∃ p ys, xs = [.ref p] ∧ ((SqL K H p ys ∧ ∀ l, H l = none → Q (.ref l) (upd H l (.tup ys))) ∨ (SqT K H p ys ∧ Q (.ref p) H))
theorem oTuple (h : X.K = K := by rfl) : CallR X (.type "tuple") (rTupOf K) := h ▸ call_tuple_of
def rLstOf (K : PySem.W.Frag) : List V → Hp → VK → Prop := fun xs H Q => ∃ p ys, xs = [.ref p] ∧ (SqL K H p ys ∨ SqT K H p ys) ∧ ∀ l, H l = none → Q (.ref l) (upd H l (.lst ys))
theorem oList (h : X.K = K := by rfl) : CallR X (.type "list") (rLstOf K) := h ▸ call_list_of
theorem oSum (hc : X.calm = true) (h : X.K = K := by rfl) : CallR X (.builtin "sum") (rSum K) := h ▸ cr_sum hc
theorem oMax (hc : X.calm = true) (h : X.K = K := by rfl) : CallR X (.builtin "max") (rMax K) := h ▸ cr_max hc
theorem oMin (hc : X.calm = true) (h : X.K = K := by rfl) : CallR X (.builtin "min") (rMin K) := h ▸ cr_min hc
theorem oAny (hc : X.calm = true) (h : X.K = K := by rfl) : CallR X (.builtin "any") (rAny K) := h ▸ cr_any hc
theorem oAll (hc : X.calm = true) (h : X.K = K := by rfl) : CallR X (.builtin "all") (rAll K) := h ▸ cr_all hc
theorem oMaxD (hc : X.calm = true) (h : X.K = K := by rfl) : CallRK X (.builtin "max") ["default"] (rMaxD K) := h ▸ cr_maxD hc
theorem oIt {tg l : Expr} {te : TE} (e : PE X l te) (h : X.K = K := by rfl) : PI X tg l (iA K te) := h ▸ pi_A e
theorem oEnum {e : Expr} {ta : TA} {p pos tpos : Pos} {elts : List Expr} {kk : Nat} (hg : Gl X "enumerate") (hm : X.mg "enumerate" = none) (ha : PA X [e] ta) (h : X.K = K := by rfl) (hs : starEach [e] X.env = [(false, eval e X.env)] := by rfl) :
    PI X (.Tuple elts kk tpos) (.Call (.Name "enumerate" p) [e] [] pos) (iEnum K ta) := h ▸ pi_enum hg hm ha hs
theorem oTup {pos : Pos} {es : List Expr} {k : Nat} {t : TGs} {n : Nat} (hc : X.calm = true) (e : PGs X es t) (h : X.K = K := by rfl) (hn : (assignEach es X.env).length = n := by rfl) (hst : (assignEach es X.env).findIdx? (·.1) = none := by rfl) : PG X (.Tuple es k pos) (gTA K n t) := h ▸ pg_tupA hc e hn hst
theorem oFld {e : Expr} {ta : TE} {f : Str} {pos : Pos} (he : PE X e ta) (h : X.K = K := by rfl) (hb : attributeBase e f X.env (eval e X.env) = eval e X.env := by rfl) : PE X (.Attribute e f pos) (tFld K ta f) := h ▸ pe_fld he hb
theorem oApp {o e : Expr} {es : List Expr} {to : TE} {t : TA} {apos cpos : Pos} (ho : PE X o to) (ha : PA X (e :: es) t) (h : X.K = K := by rfl) (hbase : attributeBase o "append" X.env (eval o X.env) = eval o X.env := by rfl)
    (hp : PE X (.Call (.Attribute o "append" apos) (e :: es) [] cpos) (tBM X.K "list" rAppend to t)) : PE X (.Call (.Attribute o "append" apos) (e :: es) [] cpos) (tBM K "list" rAppend to t) := h ▸ hp
end
section
variable {σ : L2.St} {H : Hp} {Q : VK} {K : PySem.W.Frag}
theorem s_mkO {C : Addr} {sp : Sp} {ta : TA} {Q : XK} (k : ta σ H fun vs H1 => vs.length ≤ 1000 ∧ ∀ a, H1 a = none → sp (.ref a :: (vs ++ [])) (upd H1 a (exo a C none)) (fun v H2 => v = .non ∧ ∃ (d : Addr) (fs : List (Str × V)), H2 a = some (exo a C (some d)) ∧ H2 d = some (exd d fs) ∧ H1 d = none ∧ Q (.ref C) (some d) (upd (del H2 a) d (.xd fs))) (fun _ _ _ => False)) : tMkO C sp [] ta σ H Q := k
theorem s_lenS {z : Str} (h : z.length ≤ sizeLine) (k : Q (.int z.length) H) : rLenA K [.str z] H Q := ⟨.str z, z.length, rfl, ⟨h, rfl⟩, k⟩
theorem s_lenL {a : Addr} {xs : List V} (h : SqL K H a xs) (k : Q (.int xs.length) H) : rLenA K [.ref a] H Q := ⟨.ref a, xs.length, rfl, .inl ⟨xs, h, rfl⟩, k⟩
theorem s_lenT {a : Addr} {xs : List V} (h : SqT K H a xs) (k : Q (.int xs.length) H) : rLenA K [.ref a] H Q := ⟨.ref a, xs.length, rfl, .inr ⟨xs, h, rfl⟩, k⟩
theorem s_lc {wi : TI} {g : TG} {te : TE} {vs : List Nat} (k : wi σ H fun J H1 => LcW J g te vs σ H1 Q) : tLc wi g tYes te vs σ H Q := k
theorem s_itS {te : TE} {R : It → Hp → Prop} (k : te σ H fun v H1 => ∃ x, v = .str x ∧ R (Its x) H1) : iA K te σ H R := .inr (.inr k)
theorem s_itL {te : TE} {R : It → Hp → Prop} (k : te σ H fun x H1 => ∃ a, x = .ref a ∧ (∃ xs, SqL K H1 a xs) ∧ R (Itl K a) H1) : iA K te σ H R := .inl k
theorem s_itT {te : TE} {R : It → Hp → Prop} (k : te σ H fun x H1 => ∃ a, x = .ref a ∧ (∃ xs, SqT K H1 a xs) ∧ R (Itt K a) H1) : iA K te σ H R := .inr (.inl k)
theorem s_all {a : Addr} {bs : List Bool} (h : SqL K H a (bs.map V.bl)) (k : Q (.bl (bs.all id)) H) : rAll K [.ref a] H Q := ⟨a, bs, rfl, h, k⟩
theorem s_any {a : Addr} {bs : List Bool} (h : SqL K H a (bs.map V.bl)) (k : Q (.bl (bs.any id)) H) : rAny K [.ref a] H Q := ⟨a, bs, rfl, h, k⟩
theorem s_sum {a : Addr} {ns : List Int} (h : SqL K H a (ns.map V.int)) (k : Q (.int ns.sum) H) : rSum K [.ref a] H Q := ⟨a, ns, rfl, h, k⟩
theorem s_tupL {a : Addr} {xs : List V} (h : SqL K H a xs) (k : ∀ l, H l = none → Q (.ref l) (upd H l (.tup xs))) : rTupOf K [.ref a] H Q := ⟨a, xs, rfl, .inl ⟨h, k⟩⟩
theorem s_tupT {a : Addr} {xs : List V} (h : SqT K H a xs) (k : Q (.ref a) H) : rTupOf K [.ref a] H Q := ⟨a, xs, rfl, .inr ⟨h, k⟩⟩
theorem s_lstL {a : Addr} {xs : List V} (h : SqL K H a xs) (k : ∀ l, H l = none → Q (.ref l) (upd H l (.lst xs))) : rLstOf K [.ref a] H Q := ⟨a, xs, rfl, .inl h, k⟩
theorem s_lstT {a : Addr} {xs : List V} (h : SqT K H a xs) (k : ∀ l, H l = none → Q (.ref l) (upd H l (.lst xs))) : rLstOf K [.ref a] H Q := ⟨a, xs, rfl, .inr h, k⟩
theorem ge_map {α β : Type} {f : α → β} {l : List α} {m : List β} (hl : m.length = l.length) (h : ∀ (i : Nat) y, m[i]? = some y → ∃ x, l[i]? = some x ∧ y = f x) : m = l.map f := by
  apply List.ext_getElem?
  intro i
  rw [List.getElem?_map]
  cases e : m[i]? with
  | none =>
    have : l[i]? = none := by rw [List.getElem?_eq_none_iff] at e ⊢; omega
    rw [this]; rfl
  | some y =>
    obtain ⟨x, e2, rfl⟩ := h i y e
    rw [e2]; rfl
theorem gn_mono {i : Nat} : ∀ x σ1 H' (P P' : L2.St → Hp → Prop), (∀ s h, P s h → P' s h) → gName i x σ1 H' P → gName i x σ1 H' P' := fun _ _ _ _ _ h q => h _ _ q
theorem iteNF {A B : Prop} (h : A) : if (!false) = true then A else B := h
theorem iteNT {A B : Prop} (h : B) : if (!true) = true then A else B := h
theorem atI0 {α : Type} {c : α} {r : List α} : atI (c :: r) 0 = some c := atI_nat (j := 0) rfl
theorem line_of {n : Nat} (h : n ≤ 100000) : n ≤ sizeLine := Nat.le_trans h (by rw [sizeLine_eq]; decide)
theorem line_lt {n : Nat} (h : n ≤ 100000) : n < sizeLine := Nat.lt_of_le_of_lt h (by rw [sizeLine_eq]; decide)
theorem s_slL {a : Addr} {xs : List V} {lo hi : Option Int} (h : SqL K H a xs) (k : ∀ p, H p = none → Q (.ref p) (upd H p (.lst (cutV xs lo hi)))) : rSlA K (.ref a) lo hi H Q := .inl ⟨a, xs, rfl, h, k⟩
theorem s_slS {z : Str} {lo hi : Option Int} (h : z.length ≤ sizeLine) (k : Q (.str (PySem.Txt.slice z lo hi)) H) : rSlA K (.str z) lo hi H Q := .inr (.inr ⟨z, rfl, h, k⟩)
theorem cut_to (xs : List V) (i : Nat) : cutV xs none (some (i : Int)) = xs.take i := by
  unfold cutV
  rw [HT.sIx_none, HT.sIx_nat]
  show List.take (min i xs.length - 0) (xs.drop 0) = _
  rw [List.drop_zero, Nat.sub_zero]
  by_cases h : i ≤ xs.length
  · rw [Nat.min_eq_left h]
  · rw [Nat.min_eq_right (by omega), List.take_length, List.take_of_length_le (by omega)]
theorem s_inL {x : V} {a : Addr} {xs : List V} (h : SqL K H a xs) (hx : flatV x = true) (hs : xs.all flatV = true) (k : Q (.bl (inV x xs)) H) : rInA K x (.ref a) H Q := .inr ⟨a, xs, rfl, .inl h, hx, hs, k⟩
theorem s_inT {x : V} {a : Addr} {xs : List V} (h : SqT K H a xs) (hx : flatV x = true) (hs : xs.all flatV = true) (k : Q (.bl (inV x xs)) H) : rInA K x (.ref a) H Q := .inr ⟨a, xs, rfl, .inr h, hx, hs, k⟩
theorem flat_strs (zs : List Str) : (zs.map V.str).all flatV = true := by
  rw [List.all_map]; exact List.all_eq_true.mpr fun _ _ => rfl
theorem inV_strs (z : Str) (zs : List Str) : inV (.str z) (zs.map V.str) = decide (z ∈ zs) := by
  unfold inV
  rw [List.any_map]
  by_cases h : z ∈ zs
  · rw [decide_eq_true h]
    exact List.any_eq_true.mpr ⟨z, h, by show (z == z) = true; simp⟩
  · rw [decide_eq_false h]
    refine List.any_eq_false.mpr fun y hy => ?_
    show ¬ (y == z) = true
    intro e
    have : y = z := by simpa using e
    exact h (this ▸ hy)
theorem s_sfld {ta tv : TE} {f : Str} {D : Ends} (k : tv σ H fun y H1 => ta σ H1 fun x H2 => ∃ a C dx fs, x = .ref a ∧ H2 a = some (.ins C dx fs) ∧ Cls K C ∧ NoAttr K C f ∧ fs.length < 1000 ∧ D.nx σ (upd H2 a (.ins C dx (putF f y fs)))) : sFld K ta tv f D σ H := k
theorem tg_mono {n : Nat} {t : TGs} (h : ∀ (xs : List V) (σ : L2.St) (H : Hp) (P P' : L2.St → Hp → Prop), (∀ s h, P s h → P' s h) → t xs σ H P → t xs σ H P') : ∀ x σ1 H' (P P' : L2.St → Hp → Prop), (∀ s h, P s h → P' s h) → gTA K n t x σ1 H' P → gTA K n t x σ1 H' P' := by
  rintro x σ1 H' P P' m (⟨a, xs, e, q, l, k⟩ | ⟨a, xs, e, q, l, k⟩)
  · exact .inl ⟨a, xs, e, q, l, h _ _ _ _ _ m k⟩
  · exact .inr ⟨a, xs, e, q, l, h _ _ _ _ _ m k⟩
theorem tgc_mono {i : Nat} {t : TGs} (h : ∀ (xs : List V) (σ : L2.St) (H : Hp) (P P' : L2.St → Hp → Prop), (∀ s h, P s h → P' s h) → t xs σ H P → t xs σ H P') : ∀ (xs : List V) (σ : L2.St) (H : Hp) (P P' : L2.St → Hp → Prop), (∀ s h, P s h → P' s h) → gCons (gName i) t xs σ H P → gCons (gName i) t xs σ H P' := by
  rintro xs σ H P P' m ⟨v, r, e, k⟩
  exact ⟨v, r, e, h _ _ _ _ _ m k⟩
theorem tgn_mono : ∀ (xs : List V) (σ : L2.St) (H : Hp) (P P' : L2.St → Hp → Prop), (∀ s h, P s h → P' s h) → gNil xs σ H P → gNil xs σ H P' := fun _ _ _ _ _ m k => ⟨k.1, m _ _ k.2⟩
/-- the things at some addresses, one by one -/
def AllAt {α : Type} (R : Addr → α → Hp → Prop) (H : Hp) (as : List Addr) (xs : List α) : Prop := as.length = xs.length ∧ ∀ (i : Nat) a x, as[i]? = some a → xs[i]? = some x → R a x H
theorem AllAt.mono {α : Type} {R : Addr → α → Hp → Prop} {H H' : Hp} {as : List Addr} {xs : List α} (h : AllAt R H as xs) (m : ∀ a x, R a x H → R a x H') : AllAt R H' as xs := ⟨h.1, fun i a x e1 e2 => m a x (h.2 i a x e1 e2)⟩
theorem AllAt.get {α : Type} {R : Addr → α → Hp → Prop} {H : Hp} {as : List Addr} {xs : List α} (h : AllAt R H as xs) {i : Nat} {v : V} (e : (as.map V.ref)[i]? = some v) : ∃ a x, as[i]? = some a ∧ v = .ref a ∧ xs[i]? = some x ∧ R a x H := by
  rw [List.getElem?_map] at e
  cases q : as[i]? with
  | none => rw [q] at e; cases e
  | some a =>
    rw [q] at e
    have hi : i < xs.length := by rw [← h.1]; exact (List.getElem?_eq_some_iff.mp q).1
    exact ⟨a, xs[i], rfl, (Option.some.inj e).symm, List.getElem?_eq_getElem hi, h.2 i a _ q (List.getElem?_eq_getElem hi)⟩
/-- from the values of a new list to addresses -/
theorem allAt_of {α : Type} {R : Addr → α → Hp → Prop} {H : Hp} {ys : List V} {xs : List α} (hl : ys.length = xs.length) (h : ∀ (i : Nat) y, ys[i]? = some y → ∃ a x, y = .ref a ∧ xs[i]? = some x ∧ R a x H) : ∃ as : List Addr, ys = as.map V.ref ∧ AllAt R H as xs := by
  refine ⟨ys.map fun y => match y with | .ref a => a | _ => 0, ?_, by rw [List.length_map]; exact hl, fun i a x e1 e2 => ?_⟩
  · apply List.ext_getElem?
    intro i
    rw [List.map_map, List.getElem?_map]
    cases e : ys[i]? with
    | none => rfl
    | some y => obtain ⟨a, x, rfl, _⟩ := h i y e; rfl
  · rw [List.getElem?_map] at e1
    cases e : ys[i]? with
    | none => rw [e] at e1; cases e1
    | some y =>
      obtain ⟨b, x', rfl, e3, r⟩ := h i y e
      rw [e] at e1
      cases e1
      rw [e3] at e2; cases e2
      exact r
theorem findSome_at {α β : Type} {f : α → Option β} : ∀ {l : List α} {i : Nat} {x : α} {r : β}, (∀ j y, j < i → l[j]? = some y → f y = none) → l[i]? = some x → f x = some r → l.findSome? f = some r
  | [], i, x, r, _, h, _ => by simp at h
  | y :: l, 0, x, r, _, h, hr => by
    have e : y = x := by simpa using h
    subst e
    simp [List.findSome?, hr]
  | y :: l, i + 1, x, r, hb, h, hr => by
    rw [List.findSome?_cons, hb 0 y (Nat.succ_pos _) rfl]
    exact findSome_at (fun j z hj e => hb (j + 1) z (Nat.succ_lt_succ hj) e) h hr
theorem findSome_no {α β : Type} {f : α → Option β} {l : List α} (h : ∀ (j : Nat) y, l[j]? = some y → f y = none) : l.findSome? f = none := by
  refine List.findSome?_eq_none_iff.mpr fun x hx => ?_
  obtain ⟨j, hj, e⟩ := List.mem_iff_getElem.mp hx
  exact h j x (by rw [List.getElem?_eq_getElem hj, e])
/-- a comprehension of two clauses over nothing -/
theorem s_lc2n {wi : TI} {g : TG} {tt : TT} {wi1 : TI} {g1 : TG} {tt1 : TT} {te : TE} {vs vs1 : List Nat} (k : wi σ H fun J H1 => ∃ S, Still J H1 0 S ∧ ∀ D, H1 D = none → Q (.ref D) (upd H1 D (.lst []))) (hw : ∀ (R R' : It → Hp → Prop), (∀ J H, R J H → R' J H) → wi σ H R → wi σ H R') : tLc2 wi g tt wi1 g1 tt1 te vs vs1 σ H Q := by
  refine hw _ _ (fun J H1 hh => ?_) k
  obtain ⟨S, T, k⟩ := hh
  exact fun D hD => ⟨fun i m H' => i = 0 ∧ H' = upd H1 D (.lst []), ⟨0, rfl, rfl⟩, fun i m H' h => by
    obtain ⟨rfl, rfl⟩ := h
    exact .inl ⟨T.st _ (same_new hD), k D hD⟩⟩
theorem iA_mono {te : TE} (ht : ∀ (R R' : V → Hp → Prop), (∀ v h, R v h → R' v h) → te σ H R → te σ H R') (R R' : It → Hp → Prop) (m : ∀ J H, R J H → R' J H) : iA K te σ H R → iA K te σ H R' := by
  rintro (h | h | h)
  · exact .inl (ht _ _ (fun v h' ⟨a, e, q, r⟩ => ⟨a, e, q, m _ _ r⟩) h)
  · exact .inr (.inl (ht _ _ (fun v h' ⟨a, e, q, r⟩ => ⟨a, e, q, m _ _ r⟩) h))
  · exact .inr (.inr (ht _ _ (fun v h' ⟨x, e, r⟩ => ⟨x, e, m _ _ r⟩) h))
theorem var_mono {i : Nat} (R R' : V → Hp → Prop) (m : ∀ v h, R v h → R' v h) : tVar i σ H R → tVar i σ H R' := fun ⟨v, e, r⟩ => ⟨v, e, m _ _ r⟩
theorem fld_mono {i : Nat} {f : Str} (R R' : V → Hp → Prop) (m : ∀ v h, R v h → R' v h) : tFld K (tVar i) f σ H R → tFld K (tVar i) f σ H R' := fun ⟨v, e, a, C, dx, fs, u, h1, h2, h3, h4, h5, r⟩ => ⟨v, e, a, C, dx, fs, u, h1, h2, h3, h4, h5, m _ _ r⟩
theorem lc_nil {J : It} {g : TG} {te : TE} {vs : List Nat} {H1 : Hp} {S : Nat → V → Hp → Prop} (T : Still J H1 0 S) (k : ∀ D, H1 D = none → Q (.ref D) (upd H1 D (.lst []))) : LcW J g te vs σ H1 Q := fun D hD =>
  ⟨fun i m H' => i = 0 ∧ H' = upd H1 D (.lst []), ⟨0, rfl, rfl⟩, fun i m H' h => by
    obtain ⟨rfl, rfl⟩ := h
    exact .inl ⟨T.st _ (same_new hD), k D hD⟩⟩
theorem s_ckw {r : List V → List V → Hp → VK → Prop} {t tk : TA} (k : t σ H fun vs H1 => tk σ H1 fun zs H2 => r vs zs H2 Q) : tCKw r t tk σ H Q := k
theorem s_maxD {a : Addr} {ns : List Int} {d : Int} (h : SqL K H a (ns.map V.int)) (k0 : ns = [] → Q (.int d) H) (k : ∀ m, ns ≠ [] → m ∈ ns → (∀ y, y ∈ ns → y ≤ m) → Q (.int m) H) : rMaxD K [.ref a] [.int d] H Q := ⟨a, ns, d, rfl, rfl, h, k0, k⟩
theorem s_gsub {to ti : TE} {t : TSet} {v : V} {P : L2.St → Hp → Prop} (k : to σ H fun o H1 => ti σ H1 fun i H2 => t o i v H2 fun H3 => P σ H3) : gSub to ti t v σ H P := k
theorem s_setL {a : Addr} {xs : List V} {j : Nat} {v : V} {R : Hp → Prop} (h : H a = some (.lst xs)) (hj : j < xs.length) (q : R (upd H a (.lst (xs.set j v)))) : rSetL (.ref a) (.int (j : Int)) v H R := ⟨a, xs, j, j, rfl, rfl, h, by
  unfold ixN
  rw [if_pos (by omega), if_pos (by omega)]
  simp, q⟩
theorem atI_ex {α : Type} {xs : List α} {i : Int} (h0 : 0 ≤ i) (h1 : i < xs.length) : ∃ v, atI xs i = some v := by
  obtain ⟨j, rfl⟩ : ∃ j : Nat, i = (j : Int) := ⟨i.toNat, by omega⟩
  exact ⟨xs[j], atI_nat (List.getElem?_eq_getElem (by omega))⟩
theorem s_rng1 {ta : TA} {R : It → Hp → Prop} (k : ta σ H fun vs H1 => ∃ j : Int, vs = [.int j] ∧ -(2 ^ 62) ≤ j ∧ j < 2 ^ 62 ∧ R (Itr 0 j.toNat) H1) : iRng1 ta σ H R := k
theorem s_absI {i : Int} (k : Q (.int (if i < 0 then -i else i)) H) : ∃ j, [V.int i] = [.int j] ∧ Q (.int (if j < 0 then -j else j)) H := ⟨i, rfl, k⟩
theorem s_intB {b : Bool} (k : Q (.int (if b then 1 else 0)) H) : (∃ i, [V.bl b] = [.int i] ∧ Q (.int i) H) ∨ ∃ k, [V.bl b] = [.bl k] ∧ Q (.int (if k then 1 else 0)) H := .inr ⟨b, rfl, k⟩
theorem s_intI {i : Int} (k : Q (.int i) H) : (∃ j, [V.int i] = [.int j] ∧ Q (.int j) H) ∨ ∃ k, [V.int i] = [.bl k] ∧ Q (.int (if k then 1 else 0)) H := .inl ⟨i, rfl, k⟩
/-- all but one object stand as they were -/
def But (s : Addr) (H H' : Hp) : Prop := ∀ b o, H b = some o → b ≠ s → H' b = some o
theorem But.refl {s : Addr} {H : Hp} : But s H H := fun _ _ e _ => e
theorem But.trans {s : Addr} {H H1 H2 : Hp} (a : But s H H1) (b : But s H1 H2) : But s H H2 := fun x o e n => b x o (a x o e n) n
theorem But.of {s : Addr} {H H' : Hp} (a : Same H H') : But s H H' := fun x o e _ => a x o e
theorem But.upd {s : Addr} {H : Hp} {o : HO} : But s H (upd H s o) := fun x u e n => by rw [upd_ne n]; exact e
theorem But.same {s : Addr} {H H1 H' : Hp} (a : Same H H1) (hs : H s = none) (b : But s H1 H') : Same H H' := fun x o e => b x o (a x o e) (ne_of_none e hs)
theorem new_facts {H H' : Hp} {p : Addr} {o : HO} (e : upd H p o = H') (hp : H p = none) : Same H H' ∧ H' p = some o := e ▸ ⟨same_new hp, upd_same⟩
theorem made_facts {H H' : Hp} {x dx C : Addr} (e : upd (upd H dx (.own x)) x (.ins C dx []) = H') (nx : H x = none) (nd : H dx = none) (ne : dx ≠ x) : Same H H' ∧ H' x = some (.ins C dx []) := e ▸ ⟨(same_new nd).trans (same_new (by rw [upd_ne ne.symm]; exact nx)), upd_same⟩
theorem s_meth {C : Addr} {m : Str} {sp : Sp} {E : L2.St → XK} {ta : TE} {t : TA} (k : ta σ H fun x H1 => ∃ a dx fs, x = .ref a ∧ H1 a = some (.ins C dx fs) ∧ fs.lookup m = none ∧ t σ H1 fun vs H2 => sp (x :: vs) H2 Q (E σ)) : tMethS C m sp E ta t σ H Q := k
theorem s_make {C : Addr} {sp : Sp} {E : L2.St → XK} {t : TA} (k : t σ H fun vs H1 => ∀ x dx, H1 x = none → H1 dx = none → dx ≠ x → sp (.ref x :: vs) (upd (upd H1 dx (.own x)) x (.ins C dx [])) (fun v H2 => v = .non ∧ Q (.ref x) H2) (E σ)) : tMakeS C sp E t σ H Q := k
end
/-! ### == and != by an own __eq__ that tells either answer -/
theorem ifBound_ne {M : Model} {A : Around} {E : Value → Shared → Prop} {s : Shared} {K : PySem.W.Frag} {x C : Addr} {ox : Obj} {od : Option Obj} {args : List Value} {Q : Option Value → Shared → Prop}
    (X : K.In s.heap) (I : PySem.W.InstAt s.heap x ox C od) (hs : PySem.W.findIn K (.ref C) "__ne__" = some (some (.builtin "object.__ne__"))) (h : wpAny M A (call (.builtin "object.__ne__") (.ref x :: args)) (fun v => Q (some v)) E s) :
    wpAny M A (callSpecialIfBound? (.ref x) "__ne__" args) Q E s := by
  have fin := wpAny_bind (f := fun v => pure (some v)) (wpAny_mono h (fun v s' h' => wpAny_pure h') fun _ _ h' => h')
  refine wpAny_holding (wpAny_bind (wpAny_bind (wpAny_bind (PySem.W.Looks.here I.type (PySem.W.Looks.here (PySem.W.looks_findIn X hs) (wpAny_bind (wpAny_askSetting (wpAny_ite ?_))))))))
  split
  · exact wpAny_bind (wpAny_of_eq (F.cmp_object.ne.bind (Value.ref x)) (wpAny_pure fin))
  · exact wpAny_tryCatch (wpAny_bind (wpAny_of_eq (F.cmp_object.ne.bind (Value.ref x)) (wpAny_pure fin)))
theorem call_ne {prog : Program} {w : World} {A : Around} {E : Value → Shared → Prop} {s : Shared} {K : PySem.W.Frag} {x C f : Addr} {ox : Obj} {od : Option Obj} {b : Value} {Q : Value → Shared → Prop}
    (hu : A.units + 1 < cLine) (X : K.In s.heap) (I : PySem.W.InstAt s.heap x ox C od) (hm : PySem.W.mroIn K C (.type "object") = some true) (he : PySem.W.findIn K (.ref C) "__eq__" = some (some (.ref f))) (hf : PySem.W.isFn K (.ref f) = true)
    (h : wpAny (model prog w) A.in1 (call (.ref f) [.ref x, b]) (fun v s' => ∃ c, v = .bool c ∧ Q (.bool !c) s') E s) :
    wpAny (model prog w) A (call (.builtin "object.__ne__") [.ref x, b]) Q E s := by
  refine wpAny_call (codeAny_call_builtin F.cmp_object.ne.plain F.cmpEntry_ne ?_)
  refine PySem.W.check_slot F.cmpKind_ne F.cmpSplit_ne ?_ (F.cmpArgs_ne _ _) ?_
  · exact PySem.W.Looks.andThen I.type (PySem.W.looks_mroIn X hm)
  · show wpAny _ _ (Builtin.«object.__ne__» _) _ _ _
    unfold Builtin.«object.__ne__»
    refine wpAny_bind ?_
    refine wpAny_pure ?_
    refine wpAny_bind (wpAny_cRoomFor hu ?_)
    refine wpAny_bind (PySem.W.ifBound_K X I he hf (wpAny_mono h (fun v s' h' => ?_) fun _ _ q => q))
    obtain ⟨c, rfl, q⟩ := h'
    exact wpAny_bind (wpAny_truthy_bool (wpAny_pure q))
theorem rc_ne {prog : Program} {w : World} {A : Around} {E : Value → Shared → Prop} {s : Shared} {K : PySem.W.Frag} {x y C f : Addr} {ox oy : Obj} {od od' : Option Obj} {Q : Value → Shared → Prop}
    (hu : A.units + 1 < cLine) (X : K.In s.heap) (I : PySem.W.InstAt s.heap x ox C od) (J : PySem.W.InstAt s.heap y oy C od') (hm : PySem.W.mroIn K C (.type "object") = some true) (he : PySem.W.findIn K (.ref C) "__eq__" = some (some (.ref f))) (hs : PySem.W.findIn K (.ref C) "__ne__" = some (some (.builtin "object.__ne__"))) (hf : PySem.W.isFn K (.ref f) = true)
    (h : wpAny (model prog w) A.in1 (call (.ref f) [.ref x, .ref y]) (fun v s' => ∃ c, v = .bool c ∧ Q (.bool !c) s') E s) :
    wpAny (model prog w) A (richCompare .NotEq (.ref x) (.ref y)) Q E s := by
  unfold richCompare
  refine wpAny_holding (wpAny_bind (wpAny_cRoomFor (by omega) (wpAny_bind (PySem.W.Looks.here I.type (wpAny_bind (PySem.W.Looks.here J.type ?_))))))
  have e : ((Value.ref C != Value.ref C) = true) = False := by simp
  rw [if_neg (by simp)]
  refine wpAny_bind (wpAny_pure (wpAny_bind ?_))
  refine wpAny_bind (ifBound_ne X I hs (call_ne hu X I hm he hf (wpAny_mono h (fun v s' h' => ?_) fun _ _ q => q)))
  obtain ⟨c, rfl, q⟩ := h'
  exact ⟨c, rfl, wpAny_pure (wpAny_pure q)⟩
/-- a class's own __eq__ -/
structure OwnE (P : Program) (w : World) (K : PySem.W.Frag) (mg : Str → Option Value) (base : Heap) (CX : CXT) (k : Nat) (C : Addr) (sp : Sp) : Prop where
  ex : ∃ (f : Addr) (fd : FuncData) (ps : List Str), FnOk P w K mg base CX k f fd ps sp ∧ PySem.W.findIn K (.ref C) "__eq__" = some (some (.ref f)) ∧ PySem.W.isFn K (.ref f) = true ∧ Binds K fd ps [] ∧
    PySem.W.findIn K (.ref C) "__ne__" = some (some (.builtin "object.__ne__")) ∧ PySem.W.mroIn K C (.type "object") = some true ∧ PySem.W.notFirst K C (.type "str") = true
def spB (sp : Sp) (E : XK) (x y : V) (H : Hp) (Q : Bool → Hp → Prop) : Prop := sp [x, y] H (fun v H' => ∃ b, v = .bl b ∧ Q b H') E
def rOwnEq (C : Addr) (sp : Sp) (E : XK) : R2 := fun x y H Q => ∃ a dx fs, x = .ref a ∧ H a = some (.ins C dx fs) ∧ ((∃ z, y = .str z) ∨ ∃ b dy gs, y = .ref b ∧ H b = some (.ins C dy gs)) ∧ spB sp E x y H fun b H' => Q (.bl b) H'
def rOwnNe (C : Addr) (sp : Sp) (E : XK) : R2 := fun x y H Q => ∃ a dx fs b dy gs, x = .ref a ∧ H a = some (.ins C dx fs) ∧ y = .ref b ∧ H b = some (.ins C dy gs) ∧ spB sp E x y H fun b H' => Q (.bl (!b)) H'
/-- the call of an own __eq__ from within -/
theorem run_own {X : Cx} {CX : CXT} {n : Nat} {f : Addr} {fd : FuncData} {ps : List Str} {sp : Sp} {E : XK} {A : Around} {pins : List (Addr × Obj)} {s : Shared} {σ : L2.St} {H : Hp} {x y : V} {u v : Value} {Q : Bool → Hp → Prop}
    (F : FnOk X.prog X.w X.K X.mg X.base CX n f fd ps sp) (hb : Binds X.K fd ps []) (hx : Passes CX X E) (hr : Room n A) (hf : A.frames = X.A.frames) (I : L2.Inv X pins σ H s) (rx : RelV x u) (ry : RelV y v) (h : spB sp E x y H Q) :
    wpAny (model X.prog X.w) A (call (.ref f) [u, v]) (fun r s' => ∃ c, r = .bool c ∧ ∃ H', L2.Inv X pins σ H' s' ∧ Q c H') X.xe s := by
  have e := I.env0
  have e0 : Env0 X.prog X.w X.K X.mg X.base A X.stack s H := ⟨by rw [hf]; exact e.frames, e.mod, e.bs, e.bsz, e.funs, e.frf, e.hok, e.bare⟩
  have hl := F.len _ _ _ _ h
  have b := hb s [u, v] I.kIn (by simpa using hl)
  rw [List.append_nil] at b
  refine wpAny_call (codeAny_mono (F.run A X.stack s H { pos := [u, v] } [u, v] [x, y] _ E hr e0 b (.cons rx (.cons ry .nil)) h) ?_)
  intro r s' q
  match r, q with
  | .ok (.ret z), q =>
    obtain ⟨v', H', I', rv, c, rfl, qq⟩ := I.after q
    exact ⟨c, rv, H', I', qq⟩
  | .error e, q => exact hx pins σ H s e s' I q
theorem op_ownEq {X : Cx} {n j : Nat} {C : Addr} {sp : Sp} {E : XK} (c : OwnE X.prog X.w X.K X.mg X.base CX0 n C sp) (hr : Room j X.A) (hk : n ≤ j) : OpR X (compareOp .Eq) (rOwnEq C sp E) := by
  intro pins s σ H x y v u Q I rx ry h
  obtain ⟨f, fd, ps, F, hs, hf, hb, hs', hm, hn⟩ := c.ex
  obtain ⟨a, dx, fs, rfl, ha, hy, h⟩ := h
  have hr' := hr.mono hk
  cases rx
  obtain ⟨mA, J, _⟩ := ins_get I.hok ha
  obtain ⟨od, J, _⟩ := J.look
  obtain ⟨m, hF⟩ := I.fr
  have fin := wpAny_mono (run_own (CX := CX0) F hb (fun _ _ _ _ _ _ _ h => h.elim) hr' rfl I (x := .ref a) rfl ry h) (Q' := PySem.W.CmpBack (EP X pins σ Q)) (fun r s' ⟨c, e, H', I', q⟩ => by subst e; exact ⟨.bl c, H', I', rfl, q⟩) fun _ _ q => q
  rcases hy with ⟨z, rfl⟩ | ⟨b, dy, gs, rfl, hb'⟩
  · obtain ⟨t, rfl⟩ := ry
    exact PySem.W.cmp_ofEq (PySem.W.cmp_K hr.units0 hF I.ok.mod.kin J (tb := .type "str") (fun _ _ _ _ _ q => wpAny_pure q) hn hs hf fin)
  · cases ry
    obtain ⟨mB, J', _⟩ := ins_get I.hok hb'
    obtain ⟨od', J', _⟩ := J'.look
    exact PySem.W.cmp_ofEq (PySem.W.cmp_K hr.units0 hF I.ok.mod.kin J J'.type (by simp [PySem.W.notFirst]) hs hf fin)
theorem op_ownNe {X : Cx} {n j : Nat} {C : Addr} {sp : Sp} {E : XK} (c : OwnE X.prog X.w X.K X.mg X.base CX0 n C sp) (hr : Room j X.A) (hk : n + 1 ≤ j) : OpR X (compareOp .NotEq) (rOwnNe C sp E) := by
  intro pins s σ H x y v u Q I rx ry h
  obtain ⟨f, fd, ps, F, hs, hf, hb, hs', hm, hn⟩ := c.ex
  obtain ⟨a, dx, fs, b, dy, gs, rfl, ha, rfl, hb', h⟩ := h
  have hr' := hr.mono hk
  cases rx
  cases ry
  obtain ⟨mA, J, _⟩ := ins_get I.hok ha
  obtain ⟨od, J, _⟩ := J.look
  obtain ⟨mB, J', _⟩ := ins_get I.hok hb'
  obtain ⟨od', J', _⟩ := J'.look
  have sb : L2.Sub X (n + 1) X.A := ⟨hr', rfl⟩
  refine PySem.W.cmp_ofNotEq (rc_ne (by have := hr.un; omega) I.kIn J J' hm hs hs' hf ?_)
  exact wpAny_mono (run_own (CX := CX0) F hb (fun _ _ _ _ _ _ _ h => h.elim) sb.in1.room sb.in1.fr I (x := .ref a) (y := .ref b) rfl rfl h) (fun r s' ⟨c, e, H', I', q⟩ => ⟨c, e, .bl (!c), H', I', rfl, q⟩) fun _ _ q => q
theorem oIsi {X : Cx} (K : PySem.W.Frag) (h : X.K = K := by rfl) : CallR X (.builtin "isinstance") (rIsi K) := h ▸ call_isi
/-! ### making an object of a class without an own __init__ -/
structure Mk0 (K : PySem.W.Frag) (C : Addr) : Prop where
  makes : PySem.W.makesIn K C = true
  init : PySem.W.findIn K (.ref C) "__init__" = some (Option.some (Value.builtin "object.__init__"))
  kp : PySem.W.keepIn K (.ref C) = true
  mro : PySem.W.mroIn K C (.type "object") = some true
def tMk0 (C : Addr) : TE := fun _ H Q => ∀ x dx, H x = none → H dx = none → dx ≠ x → Q (.ref x) (upd (upd H dx (.own x)) x (.ins C dx []))
theorem run_mk0 {X : Cx} {C : Addr} {pins : List (Addr × Obj)} {σ : L2.St} {H : Hp} {s : Shared} {Q : VK} (M : Mk0 X.K C) (I : L2.Inv X pins σ H s) (h : tMk0 C σ H Q) :
    wpAny (model X.prog X.w) X.A (call (.ref C) []) (EP X pins σ Q) X.xe s := by
  have I2 := Inv.made (C := C) I
  have hq := h (s.heap.objs.size + 1) s.heap.objs.size (HOk.fresh I.hok (Nat.le_succ _)) (HOk.fresh I.hok (Nat.le_refl _)) (Nat.ne_of_lt (Nat.lt_succ_self _))
  obtain ⟨mA, J, _⟩ := ins_get I2.hok upd_same
  obtain ⟨od, J, _⟩ := J.look
  refine wpAny_call (make_map0 I.kIn M.makes M.init (fun self => PySem.W.Looks.of_pure (PySem.W.oi_bind self)) ?_)
  refine codeAny_call_builtin PySem.W.oi_plain PySem.W.entry_oi (PySem.W.check_slot PySem.W.oi_kind PySem.W.oi_split (PySem.W.Looks.andThen J.type (PySem.W.looks_mroIn I2.kIn M.mro)) (PySem.W.oi_args _) ?_)
  rw [PySem.W.oi_run]
  exact wpAny_pure ⟨rfl, .ref _, _, I2, rfl, hq⟩
theorem pe_mk0 {X : Cx} {C : Addr} {x : Str} {p pos : Pos} (M : Mk0 X.K C) (hg : Gl X x) (hm : X.mg x = some (.ref C)) (hdb : NotDbg x := by decide) : PE X (.Call (.Name x p) [] [] pos) (tMk0 C) :=
  ⟨fun pins s σ H Q I h => wpAny_Call_Name_kw (ld_glob I hg hm (PySem.W.callWith_K0 I.kIn M.kp (run_mk0 M I h)) hdb)⟩
/-! ### a comprehension of two clauses, without tests: the second one's things, one after another -/
def Lc2W (J : It) (g : TG) (wi1 : TI) (g1 : TG) (te : TE) (vs vs1 : List Nat) (σ : L2.St) (H1 : Hp) (Q : VK) : Prop :=
  ∀ D, H1 D = none → ∃ W : Nat → Nat → Hp → Prop, (∃ m, W 0 m (upd H1 D (.lst []))) ∧ ∀ i m H, W i m H → (J.stop i H ∧ Q (.ref D) H) ∨ (J.go i H ∧ ∃ Nx : Hp → Prop, (∀ H', Nx H' → ∃ m', m' < m ∧ W (i + 1) m' H') ∧
    ∀ x H', J.yld i H x H' → g x (wipe σ vs) H' fun σ2 H2 => wipe σ2 vs = wipe σ vs ∧ tYes σ2 H2 fun b H3 => if b = true then wi1 σ2 H3 fun J1 H4 => ∃ W1 : Nat → Nat → Hp → Prop, (∃ m, W1 0 m H4) ∧ ∀ j k H, W1 j k H → (J1.stop j H ∧ Nx H) ∨ (J1.go j H ∧ ∃ Nx1 : Hp → Prop, (∀ H', Nx1 H' → ∃ k', k' < k ∧ W1 (j + 1) k' H') ∧
      ∀ x H', J1.yld j H x H' → g1 x (wipe σ2 vs1) H' fun σ3 H5 => wipe σ3 vs1 = wipe σ2 vs1 ∧ tYes σ3 H5 fun b H6 => if b = true then te σ3 H6 fun y H7 => ∃ acc, H7 D = some (.lst acc) ∧ acc.length < sizeLine ∧ Nx1 (upd H7 D (.lst (acc ++ [y]))) else Nx1 H6) else Nx H3)
theorem s_lc2 {wi : TI} {g : TG} {wi1 : TI} {g1 : TG} {te : TE} {vs vs1 : List Nat} {σ : L2.St} {H : Hp} {Q : VK} (k : wi σ H fun J H1 => Lc2W J g wi1 g1 te vs vs1 σ H1 Q) : tLc2 wi g tYes wi1 g1 tYes te vs vs1 σ H Q := k
theorem flat_succ {α : Type} (F : Nat → List α) (i : Nat) : (List.range (i + 1)).flatMap F = (List.range i).flatMap F ++ F i := by
  rw [List.range_succ, List.flatMap_append]; simp
theorem flat_le {α : Type} (F : Nat → List α) {i n : Nat} (h : i ≤ n) : ((List.range i).flatMap F).length ≤ ((List.range n).flatMap F).length := by
  induction h with
  | refl => exact Nat.le_refl _
  | step _ ih => rw [flat_succ, List.length_append]; omega
theorem lc2_flat {J : It} {g : TG} {wi1 : TI} {g1 : TG} {te : TE} {vs vs1 : List Nat} {σ : L2.St} {H1 : Hp} {Q : VK} {n : Nat} {S : Nat → V → Hp → Prop} (T : Still J H1 n S) (F : Nat → List V) (hn : ((List.range n).flatMap F).length ≤ 100000)
    (hi : ∀ x σ2 H' (Q' : VK), wipe σ2 vs = wipe σ vs → Q' x H' → g1 x (wipe σ2 vs1) H' fun σ3 H5 => wipe σ3 vs1 = wipe σ2 vs1 ∧ te σ3 H5 Q')
    (hs : ∀ D i x H', H1 D = none → (∃ ys, H' D = some (.lst ys)) → i < n → S i x H' → Same H1 H' → ∀ R : L2.St → It → Hp → Prop, (∀ σ2 J1 H4 H5 S1, wipe σ2 vs = wipe σ vs → Same H' H4 → H5 D = none → Same H5 H4 → Still J1 H5 (F i).length S1 → (∀ j x H, S1 j x H → (F i)[j]? = some x) → R σ2 J1 H4) → g x (wipe σ vs) H' fun σ2 H2 => wipe σ2 vs = wipe σ vs ∧ wi1 σ2 H2 (R σ2))
    (k : ∀ D H', H1 D = none → Same H1 H' → H' D = some (.lst ((List.range n).flatMap F)) → Q (.ref D) H')
    (hg : ∀ x σ1 H' (P P' : L2.St → Hp → Prop), (∀ s h, P s h → P' s h) → g x σ1 H' P → g x σ1 H' P')
    (hg1 : ∀ x σ1 H' (P P' : L2.St → Hp → Prop), (∀ s h, P s h → P' s h) → g1 x σ1 H' P → g1 x σ1 H' P') : Lc2W J g wi1 g1 te vs vs1 σ H1 Q := by
  intro D hD
  refine ⟨fun i m H => m = n - i ∧ i ≤ n ∧ Same H1 H ∧ H D = some (.lst ((List.range i).flatMap F)), ⟨n, rfl, Nat.zero_le _, same_new hD, upd_same⟩, ?_⟩
  rintro i m H ⟨rfl, hle, s, hy⟩
  by_cases hlt : i < n
  · refine .inr ⟨T.go i H s hlt, fun H' => i + 1 ≤ n ∧ Same H1 H' ∧ H' D = some (.lst ((List.range (i + 1)).flatMap F)), fun H' p => ⟨n - (i + 1), by omega, rfl, p⟩, fun x H' yl => ?_⟩
    obtain ⟨sx, hS⟩ := T.yl i x H H' s hlt yl
    have hy' := sx _ _ hy
    refine hg _ _ _ _ _ (fun s2 h2 z => And.intro z.1 (tyes_to z.2)) (hs D i x H' hD ⟨_, hy'⟩ hlt hS (s.trans sx) _ fun σ2 J1 H4 H5 S1 ew s4 h5 s5 T1 hF => ?_)
    refine ⟨fun j k H => k = (F i).length - j ∧ j ≤ (F i).length ∧ Same H5 H ∧ Same H1 H ∧ H D = some (.lst ((List.range i).flatMap F ++ (F i).take j)), ⟨_, rfl, Nat.zero_le _, s5, (s.trans sx).trans s4, by rw [List.take_zero, List.append_nil]; exact s4 _ _ hy'⟩, ?_⟩
    rintro j k H6 ⟨rfl, hj, s6, s16, h6⟩
    by_cases hlt1 : j < (F i).length
    · refine .inr ⟨T1.go j H6 s6 hlt1, fun H' => j + 1 ≤ (F i).length ∧ Same H5 H' ∧ Same H1 H' ∧ H' D = some (.lst ((List.range i).flatMap F ++ (F i).take (j + 1))), fun H' p => ⟨(F i).length - (j + 1), by omega, rfl, p⟩, fun y H7 yl1 => ?_⟩
      obtain ⟨sy, hS1⟩ := T1.yl j y H6 H7 s6 hlt1 yl1
      have ey := hF j y H7 hS1
      have q := sy _ _ h6
      have bound : ((List.range i).flatMap F ++ (F i).take j).length < sizeLine := by
        have := flat_le F hlt
        rw [flat_succ, List.length_append] at this
        rw [List.length_append, List.length_take]
        exact line_lt (by omega)
      have fin : j + 1 ≤ (F i).length ∧ Same H5 (upd H7 D (.lst (((List.range i).flatMap F ++ (F i).take j) ++ [y]))) ∧ Same H1 (upd H7 D (.lst (((List.range i).flatMap F ++ (F i).take j) ++ [y]))) ∧ upd H7 D (.lst (((List.range i).flatMap F ++ (F i).take j) ++ [y])) D = some (.lst ((List.range i).flatMap F ++ (F i).take (j + 1))) :=
        ⟨hlt1, same_mut (s6.trans sy) h5, same_mut (s16.trans sy) hD, by rw [upd_same, List.take_add_one, ey, List.append_assoc]; rfl⟩
      exact hg1 _ _ _ _ _ (fun s3 h3 z => And.intro z.1 (tyes_to z.2)) (hi y σ2 H7 _ ew ⟨_, q, bound, fin⟩)
    · have ej : j = (F i).length := by omega
      subst ej
      rw [List.take_length] at h6
      exact .inl ⟨T1.st H6 s6, hlt, s16, by rw [flat_succ]; exact h6⟩
  · have ei : i = n := by omega
    subst ei
    exact .inl ⟨T.st H s, k D H hD s hy⟩
theorem s_mk0 {C : Addr} {σ : L2.St} {H : Hp} {Q : VK} (k : ∀ x dx, H x = none → H dx = none → dx ≠ x → Q (.ref x) (upd (upd H dx (.own x)) x (.ins C dx []))) : tMk0 C σ H Q := k
/-! ### tuples of the very same things -/
def DSame : Eqv := fun x y _ => ∃ a, x = .ref a ∧ y = .ref a
theorem mon_same : Mon DSame := fun _ _ _ _ _ h => h
theorem eqG_same {X : Cx} : EqG X 0 DSame := by
  intro A pins s σ H x y u v sb I rx ry d
  obtain ⟨a, rfl, rfl⟩ := d
  cases rx
  cases ry
  exact SeqAt.EqAt.same (.ref a) X.prog X.w X.xe _ ⟨rfl, H, I, Ext.rfl'⟩
theorem oEqId {X : Cx} {j : Nat} (K : PySem.W.Frag) (hr : Room j X.A) (hj : 1 ≤ j) (h : X.K = K := by rfl) : OpR X (compareOp .Eq) (rEqG (DTup K DSame)) := h ▸ op_eqG (rcG_tup mon_same eqG_same) (hr.mono hj)
theorem s_eqId {K : PySem.W.Frag} {H : Hp} {Q : VK} {a b : Addr} {as : List Addr} (ha : SqT K H a (as.map V.ref)) (hb : SqT K H b (as.map V.ref)) (k : ∀ H', Same H H' → Q (.bl true) H') : rEqG (DTup K DSame) (.ref a) (.ref b) H Q := by
  refine ⟨⟨a, b, _, _, rfl, rfl, ha, hb, rfl, fun i x y e1 e2 => ?_⟩, fun H' e => k H' e⟩
  rw [e1] at e2; cases e2
  rw [List.getElem?_map] at e1
  cases q : as[i]? with
  | none => rw [q] at e1; cases e1
  | some z => rw [q] at e1; cases e1; exact ⟨z, rfl, rfl⟩
/-! ### a comprehension over a range whose things may change what stands -/
theorem lc_rng {lo : Int} {g : TG} {te : TE} {vs : List Nat} {σ : L2.St} {H1 : Hp} {Q : VK} {n : Nat} (I : Addr → Nat → List V → Hp → Prop) (hn : n ≤ 100000)
    (h0 : ∀ D, H1 D = none → I D 0 [] (upd H1 D (.lst [])))
    (hs : ∀ D i ys H', H1 D = none → i < n → H' D = some (.lst ys) → ys.length = i → I D i ys H' → ∀ Q' : VK, (∀ y H'', H'' D = some (.lst ys) → I D (i + 1) (ys ++ [y]) (upd H'' D (.lst (ys ++ [y]))) → Q' y H'') → g (.int (lo + i)) (wipe σ vs) H' fun σ2 H2 => wipe σ2 vs = wipe σ vs ∧ te σ2 H2 Q')
    (k : ∀ D ys H', H1 D = none → H' D = some (.lst ys) → ys.length = n → I D n ys H' → Q (.ref D) H')
    (hg : ∀ x σ1 H' (P P' : L2.St → Hp → Prop), (∀ s h, P s h → P' s h) → g x σ1 H' P → g x σ1 H' P') : LcW (Itr lo n) g te vs σ H1 Q := by
  intro D hD
  refine ⟨fun i m H => m = n - i ∧ i ≤ n ∧ ∃ ys, H D = some (.lst ys) ∧ ys.length = i ∧ I D i ys H, ⟨n, rfl, Nat.zero_le _, [], upd_same, rfl, h0 D hD⟩, ?_⟩
  rintro i m H ⟨rfl, hi, ys, hy, hl, hr⟩
  by_cases hlt : i < n
  · refine .inr ⟨hlt, fun H' => i + 1 ≤ n ∧ ∃ ys, H' D = some (.lst ys) ∧ ys.length = i + 1 ∧ I D (i + 1) ys H', fun H' p => ⟨n - (i + 1), by omega, rfl, p⟩, fun x H' yl => ?_⟩
    obtain ⟨e, ex⟩ := yl
    subst e ex
    refine hg _ _ _ _ _ (fun s2 h2 z => And.intro z.1 (tyes_to z.2)) (hs D i ys _ hD hlt hy hl hr _ fun y H'' e hy' => ?_)
    exact ⟨ys, e, Nat.lt_of_lt_of_le (by omega : ys.length < 100001) (by rw [sizeLine_eq]; decide), hlt, ys ++ [y], upd_same, by rw [List.length_append, hl]; rfl, hy'⟩
  · have ei : i = n := by omega
    subst ei
    exact .inl ⟨Nat.le_refl _, k D ys H hD hy hl hr⟩
/-! ### the text by places -/
def top (i : Nat) : Stmt := PySem.Challenge.pw_manyboard_k03_boards_alike.main.body.getD i (.Pass ⟨0, 0, 0, 0⟩)
abbrev s_BadCount_init : Stmt := inClass (top 3) 0
abbrev s_NoName_init : Stmt := inClass (top 4) 0
abbrev s_Twice_init : Stmt := inClass (top 5) 0
abbrev s_NoCell_init : Stmt := inClass (top 6) 0
abbrev s_is_name : Stmt := top 11
abbrev s_need_names : Stmt := top 12
abbrev s_need_once : Stmt := top 13
abbrev s_need_count : Stmt := top 14
abbrev s_Board_init : Stmt := inClass (top 16) 0
abbrev s_Board_cells : Stmt := inClass (top 16) 1
abbrev s_Board_values_of : Stmt := inClass (top 16) 2
abbrev s_Board_first : Stmt := inClass (top 16) 3
abbrev s_Board_eq : Stmt := inClass (top 16) 4
abbrev s_need_values : Stmt := top 17
abbrev s_l_cell_at : Stmt := top 19
abbrev s_l_state : Stmt := top 20
abbrev s_l_digit : Stmt := top 21
abbrev s_l_name : Stmt := top 22
abbrev s_l_names : Stmt := top 23
abbrev s_l_cells : Stmt := top 24
abbrev s_l_other : Stmt := top 25
abbrev s_l_no_cell : Stmt := top 26
abbrev s_l_right : Stmt := top 27
abbrev s_law : Stmt := top 28
theorem sc_BadCount_init : FnScope ["self", "what", "count"] ["self", "what", "count"] (defScope s_BadCount_init) := ⟨rfl, rfl, rfl, by decide +kernel, rfl, by decide +kernel, by decide +kernel⟩
theorem sc_NoName_init : FnScope ["self", "name"] ["self", "name"] (defScope s_NoName_init) := ⟨rfl, rfl, rfl, by decide +kernel, rfl, by decide +kernel, by decide +kernel⟩
theorem sc_Twice_init : FnScope ["self", "name"] ["self", "name"] (defScope s_Twice_init) := ⟨rfl, rfl, rfl, by decide +kernel, rfl, by decide +kernel, by decide +kernel⟩
theorem sc_NoCell_init : FnScope ["self", "name"] ["self", "name"] (defScope s_NoCell_init) := ⟨rfl, rfl, rfl, by decide +kernel, rfl, by decide +kernel, by decide +kernel⟩
theorem sc_is_name : FnScope ["text", "sign"] ["text"] (defScope s_is_name) := ⟨rfl, rfl, rfl, by decide +kernel, rfl, by decide +kernel, by decide +kernel⟩
theorem sc_need_names : FnScope ["texts", "text"] ["texts"] (defScope s_need_names) := ⟨rfl, rfl, rfl, by decide +kernel, rfl, by decide +kernel, by decide +kernel⟩
theorem sc_need_once : FnScope ["names", "place", "name"] ["names"] (defScope s_need_once) := ⟨rfl, rfl, rfl, by decide +kernel, rfl, by decide +kernel, by decide +kernel⟩
theorem sc_need_count : FnScope ["what", "count", "low", "high"] ["what", "count", "low", "high"] (defScope s_need_count) := ⟨rfl, rfl, rfl, by decide +kernel, rfl, by decide +kernel, by decide +kernel⟩
theorem sc_Board_init : FnScope ["self", "cells", "name", "values", "_"] ["self", "cells"] (defScope s_Board_init) := ⟨rfl, rfl, rfl, by decide +kernel, rfl, by decide +kernel, by decide +kernel⟩
theorem sc_Board_cells : FnScope ["self", "name", "_"] ["self"] (defScope s_Board_cells) := ⟨rfl, rfl, rfl, by decide +kernel, rfl, by decide +kernel, by decide +kernel⟩
theorem sc_Board_values_of : FnScope ["self", "cell", "name", "values"] ["self", "cell"] (defScope s_Board_values_of) := ⟨rfl, rfl, rfl, by decide +kernel, rfl, by decide +kernel, by decide +kernel⟩
theorem sc_Board_first : FnScope ["self", "_", "values"] ["self"] (defScope s_Board_first) := ⟨rfl, rfl, rfl, by decide +kernel, rfl, by decide +kernel, by decide +kernel⟩
theorem sc_Board_eq : FnScope ["self", "other"] ["self", "other"] (defScope s_Board_eq) := ⟨rfl, rfl, rfl, by decide +kernel, rfl, by decide +kernel, by decide +kernel⟩
theorem sc_need_values : FnScope ["values"] ["values"] (defScope s_need_values) := ⟨rfl, rfl, rfl, by decide +kernel, rfl, by decide +kernel, by decide +kernel⟩
theorem sc_l_cell_at : FnScope ["_law_script", "_law_k"] ["_law_script", "_law_k"] (defScope s_l_cell_at) := ⟨rfl, rfl, rfl, by decide +kernel, rfl, by decide +kernel, by decide +kernel⟩
theorem sc_l_state : FnScope ["_law_cell"] ["_law_cell"] (defScope s_l_state) := ⟨rfl, rfl, rfl, by decide +kernel, rfl, by decide +kernel, by decide +kernel⟩
theorem sc_l_digit : FnScope ["_law_state_here", "_law_base", "_law_found", "_law_more"] ["_law_state_here", "_law_base"] (defScope s_l_digit) := ⟨rfl, rfl, rfl, by decide +kernel, rfl, by decide +kernel, by decide +kernel⟩
theorem sc_l_name : FnScope ["_law_s", "_law_taken", "_law_some", "_law_kind", "_law_stem", "_law_k", "_law_found", "_law_n"] ["_law_s", "_law_taken"] (defScope s_l_name) := ⟨rfl, rfl, rfl, by decide +kernel, rfl, by decide +kernel, by decide +kernel⟩
theorem sc_l_names : FnScope ["_law_s", "_law_many", "_law_found", "_law_k"] ["_law_s", "_law_many"] (defScope s_l_names) := ⟨rfl, rfl, rfl, by decide +kernel, rfl, by decide +kernel, by decide +kernel⟩
theorem sc_l_cells : FnScope ["_law_s", "_law_found", "_law_name_here"] ["_law_s"] (defScope s_l_cells) := ⟨rfl, rfl, rfl, by decide +kernel, rfl, by decide +kernel, by decide +kernel⟩
theorem sc_l_other : FnScope ["_law_s", "_law_cells_here", "_law_turn0", "_law_name_here", "_law_values", "_law_found", "_law_at"] ["_law_s", "_law_cells_here", "_law_turn0"] (defScope s_l_other) := ⟨rfl, rfl, rfl, by decide +kernel, rfl, by decide +kernel, by decide +kernel⟩
theorem sc_l_no_cell : FnScope ["_law_board", "_law_text", "_law_found", "e"] ["_law_board", "_law_text"] (defScope s_l_no_cell) := ⟨rfl, rfl, rfl, by decide +kernel, rfl, by decide +kernel, by decide +kernel⟩
theorem sc_l_right : FnScope ["_law_board", "_law_cells_here", "_law_name_here", "_law_values", "_law_told"] ["_law_board", "_law_cells_here"] (defScope s_l_right) := ⟨rfl, rfl, rfl, by decide +kernel, rfl, by decide +kernel, by decide +kernel⟩
theorem sc_law : FnScope ["_law_script", "_law_number", "_law_s", "_law_turn0", "_law_cells_here", "_law_others", "_law_name_here", "_law_values", "_law_handed", "_law_board", "_law_other_here"] ["_law_script"] (defScope s_law) := ⟨rfl, rfl, rfl, by decide +kernel, rfl, by decide +kernel, by decide +kernel⟩
def dd_BadCount_init : He.DefD := ⟨("BadCount", some "__init__"), "__init__", "BadCount.__init__", defArgs s_BadCount_init, defBody s_BadCount_init, defScope s_BadCount_init, [], []⟩
def dd_NoName_init : He.DefD := ⟨("NoName", some "__init__"), "__init__", "NoName.__init__", defArgs s_NoName_init, defBody s_NoName_init, defScope s_NoName_init, [], []⟩
def dd_Twice_init : He.DefD := ⟨("Twice", some "__init__"), "__init__", "Twice.__init__", defArgs s_Twice_init, defBody s_Twice_init, defScope s_Twice_init, [], []⟩
def dd_NoCell_init : He.DefD := ⟨("NoCell", some "__init__"), "__init__", "NoCell.__init__", defArgs s_NoCell_init, defBody s_NoCell_init, defScope s_NoCell_init, [], []⟩
def dd_is_name : He.DefD := ⟨("is_name", none), "is_name", "is_name", defArgs s_is_name, defBody s_is_name, defScope s_is_name, [], []⟩
def dd_need_names : He.DefD := ⟨("need_names", none), "need_names", "need_names", defArgs s_need_names, defBody s_need_names, defScope s_need_names, [], []⟩
def dd_need_once : He.DefD := ⟨("need_once", none), "need_once", "need_once", defArgs s_need_once, defBody s_need_once, defScope s_need_once, [], []⟩
def dd_need_count : He.DefD := ⟨("need_count", none), "need_count", "need_count", defArgs s_need_count, defBody s_need_count, defScope s_need_count, [], []⟩
def dd_Board_init : He.DefD := ⟨("Board", some "__init__"), "__init__", "Board.__init__", defArgs s_Board_init, defBody s_Board_init, defScope s_Board_init, [], []⟩
def dd_Board_cells : He.DefD := ⟨("Board", some "cells"), "cells", "Board.cells", defArgs s_Board_cells, defBody s_Board_cells, defScope s_Board_cells, [], []⟩
def dd_Board_values_of : He.DefD := ⟨("Board", some "values_of"), "values_of", "Board.values_of", defArgs s_Board_values_of, defBody s_Board_values_of, defScope s_Board_values_of, [], []⟩
def dd_Board_first : He.DefD := ⟨("Board", some "first"), "first", "Board.first", defArgs s_Board_first, defBody s_Board_first, defScope s_Board_first, [], []⟩
def dd_Board_eq : He.DefD := ⟨("Board", some "__eq__"), "__eq__", "Board.__eq__", defArgs s_Board_eq, defBody s_Board_eq, defScope s_Board_eq, [], []⟩
def dd_need_values : He.DefD := ⟨("need_values", none), "need_values", "need_values", defArgs s_need_values, defBody s_need_values, defScope s_need_values, [], []⟩
def dd_l_cell_at : He.DefD := ⟨("_law_cell_at", none), "_law_cell_at", "_law_cell_at", defArgs s_l_cell_at, defBody s_l_cell_at, defScope s_l_cell_at, [], []⟩
def dd_l_state : He.DefD := ⟨("_law_state", none), "_law_state", "_law_state", defArgs s_l_state, defBody s_l_state, defScope s_l_state, [], []⟩
def dd_l_digit : He.DefD := ⟨("_law_digit", none), "_law_digit", "_law_digit", defArgs s_l_digit, defBody s_l_digit, defScope s_l_digit, [], []⟩
def dd_l_name : He.DefD := ⟨("_law_name", none), "_law_name", "_law_name", defArgs s_l_name, defBody s_l_name, defScope s_l_name, [], []⟩
def dd_l_names : He.DefD := ⟨("_law_names", none), "_law_names", "_law_names", defArgs s_l_names, defBody s_l_names, defScope s_l_names, [], []⟩
def dd_l_cells : He.DefD := ⟨("_law_cells", none), "_law_cells", "_law_cells", defArgs s_l_cells, defBody s_l_cells, defScope s_l_cells, [], []⟩
def dd_l_other : He.DefD := ⟨("_law_other", none), "_law_other", "_law_other", defArgs s_l_other, defBody s_l_other, defScope s_l_other, [], []⟩
def dd_l_no_cell : He.DefD := ⟨("_law_no_cell", none), "_law_no_cell", "_law_no_cell", defArgs s_l_no_cell, defBody s_l_no_cell, defScope s_l_no_cell, [], []⟩
def dd_l_right : He.DefD := ⟨("_law_right", none), "_law_right", "_law_right", defArgs s_l_right, defBody s_l_right, defScope s_l_right, [], []⟩
def dd_law : He.DefD := ⟨("law", none), "law", "law", defArgs s_law, defBody s_law, defScope s_law, [], []⟩
def fn : List He.DefD := [dd_BadCount_init, dd_NoName_init, dd_Twice_init, dd_NoCell_init, dd_is_name, dd_need_names, dd_need_once, dd_need_count, dd_Board_init, dd_Board_cells, dd_Board_values_of, dd_Board_first, dd_Board_eq, dd_need_values, dd_l_cell_at, dd_l_state, dd_l_digit, dd_l_name, dd_l_names, dd_l_cells, dd_l_other, dd_l_no_cell, dd_l_right, dd_law]
def fa : List He.Fa := [.free "len",
  .free "isinstance",
  .free "abs",
  .free "all",
  .free "int",
  .free "str",
  .free "tuple",
  .free "list",
  .free "range",
  .free "enumerate",
  .str "LETTERS" "abcdefghijklmnopqrstuvwxyz",
  .str "LETTERS_AND_FIGURES" "abcdefghijklmnopqrstuvwxyz0123456789",
  .int "LONGEST_NAME" 10,
  .glo "BoardError",
  .glo "BadCount",
  .noat "BadCount" "what",
  .noat "BadCount" "count",
  .glo "NoName",
  .noat "NoName" "name",
  .glo "Twice",
  .noat "Twice" "name",
  .glo "NoCell",
  .noat "NoCell" "name",
  .glo "Board",
  .cls "Board",
  .noat "Board" "_cells",
  .mkr "Board",
  .meth "Board" "cells",
  .meth "Board" "values_of",
  .meth "Board" "first",
  .exm "NoCell" "NoCell" true,
  .glo "is_name",
  .glo "need_names",
  .glo "need_once",
  .glo "need_count",
  .glo "need_values",
  .glo "_law_cell_at",
  .glo "_law_state",
  .glo "_law_digit",
  .glo "_law_name",
  .glo "_law_names",
  .glo "_law_cells",
  .glo "_law_other",
  .glo "_law_no_cell",
  .glo "_law_right",
  .glo "law"]
def exL (K : PySem.W.Frag) : List Bool := [excB K (He.ga K "BoardError"),
  excB K (He.ga K "BadCount"),
  eqB (PySem.W.findIn K (.ref (He.ga K "BadCount")) "__init__") (some (some (.ref (He.fAd K ("BadCount", some "__init__"))))),
  eqB (PySem.W.typeIn K (.ref (He.fAd K ("BadCount", some "__init__")))) (some (.type "function")),
  excB K (He.ga K "NoName"),
  eqB (PySem.W.findIn K (.ref (He.ga K "NoName")) "__init__") (some (some (.ref (He.fAd K ("NoName", some "__init__"))))),
  eqB (PySem.W.typeIn K (.ref (He.fAd K ("NoName", some "__init__")))) (some (.type "function")),
  excB K (He.ga K "Twice"),
  eqB (PySem.W.findIn K (.ref (He.ga K "Twice")) "__init__") (some (some (.ref (He.fAd K ("Twice", some "__init__"))))),
  eqB (PySem.W.typeIn K (.ref (He.fAd K ("Twice", some "__init__")))) (some (.type "function")),
  excB K (He.ga K "NoCell"),
  eqB (PySem.W.findIn K (.ref (He.ga K "NoCell")) "__init__") (some (some (.ref (He.fAd K ("NoCell", some "__init__"))))),
  eqB (PySem.W.typeIn K (.ref (He.fAd K ("NoCell", some "__init__")))) (some (.type "function")),
  eqB (PySem.W.findIn K (.ref (He.ga K "Board")) "__eq__") (some (some (.ref (He.fAd K ("Board", some "__eq__"))))),
  eqB (PySem.W.isFn K (.ref (He.fAd K ("Board", some "__eq__")))) true,
  eqB (PySem.W.findIn K (.ref (He.ga K "Board")) "__ne__") (some (some (.builtin "object.__ne__"))),
  eqB (PySem.W.mroIn K (He.ga K "Board") (.type "object")) (some true),
  eqB (PySem.W.notFirst K (He.ga K "Board") (.type "str")) true,
  eqB (PySem.W.findIn K (.ref (He.ga K "Board")) "__class__") (some (some (.builtin "object.__class__"))),
  eqB (PySem.W.specialIn K (.builtin "object.__class__") "__get__") (some (some (.builtin "getset_descriptor.__get__"))),
  eqB (PySem.W.takesIn K (.builtin "object.__class__")) (some true),
  eqB (PySem.W.kitOne K (.ref (He.ga K "Board")) (.ref (He.ga K "Board"))) (some true),
  eqB (PySem.W.kitOne K (.type "str") (.ref (He.ga K "Board"))) (some false),
  eqB (PySem.W.kitOne K (.ref (He.ga K "NoCell")) (.ref (He.ga K "BoardError"))) (some true)]
def exK (K : PySem.W.Frag) : Bool := (exL K).all id
theorem exK_at {K : PySem.W.Frag} (h : exK K = true) (i : Nat) {b : Bool} (e : (exL K)[i]? = some b) : b = true := List.all_eq_true.mp h b (List.mem_of_getElem? e)
/-- what the top has written -/
structure Txt (K : PySem.W.Frag) (mg : Str → Option Value) : Prop where
  ex : ∃ (w : World) (h : Heap), K.In h ∧ h.Ns mainGlobals mg ∧ He.SaysX fa fn [] [] exK w h K
section
variable {K : PySem.W.Frag} {mg : Str → Option Value}
theorem Txt.n_len (T : Txt K mg) : mg "len" = none := by obtain ⟨w, h, X, G, c⟩ := T.ex; exact He.free_ok X G (He.SaysD.fact (congrArg (fun z : He.AlT => z.1) c.t) 0 rfl)
theorem Txt.n_isinstance (T : Txt K mg) : mg "isinstance" = none := by obtain ⟨w, h, X, G, c⟩ := T.ex; exact He.free_ok X G (He.SaysD.fact (congrArg (fun z : He.AlT => z.1) c.t) 1 rfl)
theorem Txt.n_abs (T : Txt K mg) : mg "abs" = none := by obtain ⟨w, h, X, G, c⟩ := T.ex; exact He.free_ok X G (He.SaysD.fact (congrArg (fun z : He.AlT => z.1) c.t) 2 rfl)
theorem Txt.n_all (T : Txt K mg) : mg "all" = none := by obtain ⟨w, h, X, G, c⟩ := T.ex; exact He.free_ok X G (He.SaysD.fact (congrArg (fun z : He.AlT => z.1) c.t) 3 rfl)
theorem Txt.n_int (T : Txt K mg) : mg "int" = none := by obtain ⟨w, h, X, G, c⟩ := T.ex; exact He.free_ok X G (He.SaysD.fact (congrArg (fun z : He.AlT => z.1) c.t) 4 rfl)
theorem Txt.n_str (T : Txt K mg) : mg "str" = none := by obtain ⟨w, h, X, G, c⟩ := T.ex; exact He.free_ok X G (He.SaysD.fact (congrArg (fun z : He.AlT => z.1) c.t) 5 rfl)
theorem Txt.n_tuple (T : Txt K mg) : mg "tuple" = none := by obtain ⟨w, h, X, G, c⟩ := T.ex; exact He.free_ok X G (He.SaysD.fact (congrArg (fun z : He.AlT => z.1) c.t) 6 rfl)
theorem Txt.n_list (T : Txt K mg) : mg "list" = none := by obtain ⟨w, h, X, G, c⟩ := T.ex; exact He.free_ok X G (He.SaysD.fact (congrArg (fun z : He.AlT => z.1) c.t) 7 rfl)
theorem Txt.n_range (T : Txt K mg) : mg "range" = none := by obtain ⟨w, h, X, G, c⟩ := T.ex; exact He.free_ok X G (He.SaysD.fact (congrArg (fun z : He.AlT => z.1) c.t) 8 rfl)
theorem Txt.n_enumerate (T : Txt K mg) : mg "enumerate" = none := by obtain ⟨w, h, X, G, c⟩ := T.ex; exact He.free_ok X G (He.SaysD.fact (congrArg (fun z : He.AlT => z.1) c.t) 9 rfl)
theorem Txt.c_LETTERS (T : Txt K mg) : ∃ u, mg "LETTERS" = some u ∧ RelV (.str "abcdefghijklmnopqrstuvwxyz") u := by obtain ⟨w, h, X, G, c⟩ := T.ex; obtain ⟨t, e⟩ := He.str_ok X G (He.SaysD.fact (congrArg (fun z : He.AlT => z.1) c.t) 10 rfl); exact ⟨_, e, t, rfl⟩
theorem Txt.c_LETTERS_AND_FIGURES (T : Txt K mg) : ∃ u, mg "LETTERS_AND_FIGURES" = some u ∧ RelV (.str "abcdefghijklmnopqrstuvwxyz0123456789") u := by obtain ⟨w, h, X, G, c⟩ := T.ex; obtain ⟨t, e⟩ := He.str_ok X G (He.SaysD.fact (congrArg (fun z : He.AlT => z.1) c.t) 11 rfl); exact ⟨_, e, t, rfl⟩
theorem Txt.c_LONGEST_NAME (T : Txt K mg) : ∃ u, mg "LONGEST_NAME" = some u ∧ RelV (.int 10) u := by obtain ⟨w, h, X, G, c⟩ := T.ex; obtain ⟨t, e⟩ := He.int_ok X G (He.SaysD.fact (congrArg (fun z : He.AlT => z.1) c.t) 12 rfl); exact ⟨_, e, t, rfl⟩
theorem Txt.g_BoardError (T : Txt K mg) : mg "BoardError" = some (.ref (He.ga K "BoardError")) := by obtain ⟨w, h, X, G, c⟩ := T.ex; exact He.glo_ok X G (He.SaysD.fact (congrArg (fun z : He.AlT => z.1) c.t) 13 rfl)
theorem Txt.x_BoardError (T : Txt K mg) : ExC K (He.ga K "BoardError") := by obtain ⟨w, h, X, G, c⟩ := T.ex; exact excB_ok (exK_at c.more 0 rfl)
theorem Txt.g_BadCount (T : Txt K mg) : mg "BadCount" = some (.ref (He.ga K "BadCount")) := by obtain ⟨w, h, X, G, c⟩ := T.ex; exact He.glo_ok X G (He.SaysD.fact (congrArg (fun z : He.AlT => z.1) c.t) 14 rfl)
theorem Txt.x_BadCount (T : Txt K mg) : ExC K (He.ga K "BadCount") := by obtain ⟨w, h, X, G, c⟩ := T.ex; exact excB_ok (exK_at c.more 1 rfl)
theorem Txt.na_BadCount_what (T : Txt K mg) : PySem.W.findIn K (.ref (He.ga K "BadCount")) "what" = some none := by obtain ⟨w, h, X, G, c⟩ := T.ex; exact He.noat_ok (He.SaysD.fact (congrArg (fun z : He.AlT => z.1) c.t) 15 rfl)
theorem Txt.na_BadCount_count (T : Txt K mg) : PySem.W.findIn K (.ref (He.ga K "BadCount")) "count" = some none := by obtain ⟨w, h, X, G, c⟩ := T.ex; exact He.noat_ok (He.SaysD.fact (congrArg (fun z : He.AlT => z.1) c.t) 16 rfl)
theorem Txt.xi_BadCount (T : Txt K mg) : PySem.W.findIn K (.ref (He.ga K "BadCount")) "__init__" = some (some (.ref (He.fAd K ("BadCount", some "__init__")))) := by obtain ⟨w, h, X, G, c⟩ := T.ex; exact eqB_ok (exK_at c.more 2 rfl)
theorem Txt.xt_BadCount (T : Txt K mg) : PySem.W.typeIn K (.ref (He.fAd K ("BadCount", some "__init__"))) = some (.type "function") := by obtain ⟨w, h, X, G, c⟩ := T.ex; exact eqB_ok (exK_at c.more 3 rfl)
theorem Txt.g_NoName (T : Txt K mg) : mg "NoName" = some (.ref (He.ga K "NoName")) := by obtain ⟨w, h, X, G, c⟩ := T.ex; exact He.glo_ok X G (He.SaysD.fact (congrArg (fun z : He.AlT => z.1) c.t) 17 rfl)
theorem Txt.x_NoName (T : Txt K mg) : ExC K (He.ga K "NoName") := by obtain ⟨w, h, X, G, c⟩ := T.ex; exact excB_ok (exK_at c.more 4 rfl)
theorem Txt.na_NoName_name (T : Txt K mg) : PySem.W.findIn K (.ref (He.ga K "NoName")) "name" = some none := by obtain ⟨w, h, X, G, c⟩ := T.ex; exact He.noat_ok (He.SaysD.fact (congrArg (fun z : He.AlT => z.1) c.t) 18 rfl)
theorem Txt.xi_NoName (T : Txt K mg) : PySem.W.findIn K (.ref (He.ga K "NoName")) "__init__" = some (some (.ref (He.fAd K ("NoName", some "__init__")))) := by obtain ⟨w, h, X, G, c⟩ := T.ex; exact eqB_ok (exK_at c.more 5 rfl)
theorem Txt.xt_NoName (T : Txt K mg) : PySem.W.typeIn K (.ref (He.fAd K ("NoName", some "__init__"))) = some (.type "function") := by obtain ⟨w, h, X, G, c⟩ := T.ex; exact eqB_ok (exK_at c.more 6 rfl)
theorem Txt.g_Twice (T : Txt K mg) : mg "Twice" = some (.ref (He.ga K "Twice")) := by obtain ⟨w, h, X, G, c⟩ := T.ex; exact He.glo_ok X G (He.SaysD.fact (congrArg (fun z : He.AlT => z.1) c.t) 19 rfl)
theorem Txt.x_Twice (T : Txt K mg) : ExC K (He.ga K "Twice") := by obtain ⟨w, h, X, G, c⟩ := T.ex; exact excB_ok (exK_at c.more 7 rfl)
theorem Txt.na_Twice_name (T : Txt K mg) : PySem.W.findIn K (.ref (He.ga K "Twice")) "name" = some none := by obtain ⟨w, h, X, G, c⟩ := T.ex; exact He.noat_ok (He.SaysD.fact (congrArg (fun z : He.AlT => z.1) c.t) 20 rfl)
theorem Txt.xi_Twice (T : Txt K mg) : PySem.W.findIn K (.ref (He.ga K "Twice")) "__init__" = some (some (.ref (He.fAd K ("Twice", some "__init__")))) := by obtain ⟨w, h, X, G, c⟩ := T.ex; exact eqB_ok (exK_at c.more 8 rfl)
theorem Txt.xt_Twice (T : Txt K mg) : PySem.W.typeIn K (.ref (He.fAd K ("Twice", some "__init__"))) = some (.type "function") := by obtain ⟨w, h, X, G, c⟩ := T.ex; exact eqB_ok (exK_at c.more 9 rfl)
theorem Txt.g_NoCell (T : Txt K mg) : mg "NoCell" = some (.ref (He.ga K "NoCell")) := by obtain ⟨w, h, X, G, c⟩ := T.ex; exact He.glo_ok X G (He.SaysD.fact (congrArg (fun z : He.AlT => z.1) c.t) 21 rfl)
theorem Txt.x_NoCell (T : Txt K mg) : ExC K (He.ga K "NoCell") := by obtain ⟨w, h, X, G, c⟩ := T.ex; exact excB_ok (exK_at c.more 10 rfl)
theorem Txt.na_NoCell_name (T : Txt K mg) : PySem.W.findIn K (.ref (He.ga K "NoCell")) "name" = some none := by obtain ⟨w, h, X, G, c⟩ := T.ex; exact He.noat_ok (He.SaysD.fact (congrArg (fun z : He.AlT => z.1) c.t) 22 rfl)
theorem Txt.xi_NoCell (T : Txt K mg) : PySem.W.findIn K (.ref (He.ga K "NoCell")) "__init__" = some (some (.ref (He.fAd K ("NoCell", some "__init__")))) := by obtain ⟨w, h, X, G, c⟩ := T.ex; exact eqB_ok (exK_at c.more 11 rfl)
theorem Txt.xt_NoCell (T : Txt K mg) : PySem.W.typeIn K (.ref (He.fAd K ("NoCell", some "__init__"))) = some (.type "function") := by obtain ⟨w, h, X, G, c⟩ := T.ex; exact eqB_ok (exK_at c.more 12 rfl)
theorem Txt.g_Board (T : Txt K mg) : mg "Board" = some (.ref (He.ga K "Board")) := by obtain ⟨w, h, X, G, c⟩ := T.ex; exact He.glo_ok X G (He.SaysD.fact (congrArg (fun z : He.AlT => z.1) c.t) 23 rfl)
theorem Txt.cl_Board (T : Txt K mg) : Cls K (He.ga K "Board") := by obtain ⟨w, h, X, G, c⟩ := T.ex; exact He.cls_ok (He.SaysD.fact (congrArg (fun z : He.AlT => z.1) c.t) 24 rfl)
theorem Txt.na_Board__cells (T : Txt K mg) : NoAttr K (He.ga K "Board") "_cells" := by obtain ⟨w, h, X, G, c⟩ := T.ex; exact He.noat_ok (He.SaysD.fact (congrArg (fun z : He.AlT => z.1) c.t) 25 rfl)
theorem Txt.mk_Board (T : Txt K mg) : Mk K (He.ga K "Board") (He.fAd K ("Board", some "__init__")) := by obtain ⟨w, h, X, G, c⟩ := T.ex; exact He.mkr_ok (He.SaysD.fact (congrArg (fun z : He.AlT => z.1) c.t) 26 rfl)
theorem Txt.mt_Board_cells (T : Txt K mg) : Meth K (He.ga K "Board") "cells" (He.fAd K ("Board", some "cells")) := by obtain ⟨w, h, X, G, c⟩ := T.ex; exact He.meth_ok (He.SaysD.fact (congrArg (fun z : He.AlT => z.1) c.t) 27 rfl)
theorem Txt.mt_Board_values_of (T : Txt K mg) : Meth K (He.ga K "Board") "values_of" (He.fAd K ("Board", some "values_of")) := by obtain ⟨w, h, X, G, c⟩ := T.ex; exact He.meth_ok (He.SaysD.fact (congrArg (fun z : He.AlT => z.1) c.t) 28 rfl)
theorem Txt.mt_Board_first (T : Txt K mg) : Meth K (He.ga K "Board") "first" (He.fAd K ("Board", some "first")) := by obtain ⟨w, h, X, G, c⟩ := T.ex; exact He.meth_ok (He.SaysD.fact (congrArg (fun z : He.AlT => z.1) c.t) 29 rfl)
theorem Txt.qe_Board (T : Txt K mg) : PySem.W.findIn K (.ref (He.ga K "Board")) "__eq__" = some (some (.ref (He.fAd K ("Board", some "__eq__")))) := by obtain ⟨w, h, X, G, c⟩ := T.ex; exact eqB_ok (exK_at c.more 13 rfl)
theorem Txt.qf_Board (T : Txt K mg) : PySem.W.isFn K (.ref (He.fAd K ("Board", some "__eq__"))) = true := by obtain ⟨w, h, X, G, c⟩ := T.ex; exact eqB_ok (exK_at c.more 14 rfl)
theorem Txt.qn_Board (T : Txt K mg) : PySem.W.findIn K (.ref (He.ga K "Board")) "__ne__" = some (some (.builtin "object.__ne__")) := by obtain ⟨w, h, X, G, c⟩ := T.ex; exact eqB_ok (exK_at c.more 15 rfl)
theorem Txt.qm_Board (T : Txt K mg) : PySem.W.mroIn K (He.ga K "Board") (.type "object") = some true := by obtain ⟨w, h, X, G, c⟩ := T.ex; exact eqB_ok (exK_at c.more 16 rfl)
theorem Txt.qs_Board (T : Txt K mg) : PySem.W.notFirst K (He.ga K "Board") (.type "str") = true := by obtain ⟨w, h, X, G, c⟩ := T.ex; exact eqB_ok (exK_at c.more 17 rfl)
theorem Txt.qc_Board (T : Txt K mg) : PySem.W.findIn K (.ref (He.ga K "Board")) "__class__" = some (some (.builtin "object.__class__")) := by obtain ⟨w, h, X, G, c⟩ := T.ex; exact eqB_ok (exK_at c.more 18 rfl)
theorem Txt.qg_Board (T : Txt K mg) : PySem.W.specialIn K (.builtin "object.__class__") "__get__" = some (some (.builtin "getset_descriptor.__get__")) := by obtain ⟨w, h, X, G, c⟩ := T.ex; exact eqB_ok (exK_at c.more 19 rfl)
theorem Txt.qt_Board (T : Txt K mg) : PySem.W.takesIn K (.builtin "object.__class__") = some true := by obtain ⟨w, h, X, G, c⟩ := T.ex; exact eqB_ok (exK_at c.more 20 rfl)
theorem Txt.qi_Board (T : Txt K mg) : PySem.W.kitOne K (.ref (He.ga K "Board")) (.ref (He.ga K "Board")) = some true := by obtain ⟨w, h, X, G, c⟩ := T.ex; exact eqB_ok (exK_at c.more 21 rfl)
theorem Txt.qj_Board (T : Txt K mg) : PySem.W.kitOne K (.type "str") (.ref (He.ga K "Board")) = some false := by obtain ⟨w, h, X, G, c⟩ := T.ex; exact eqB_ok (exK_at c.more 22 rfl)
theorem Txt.em_NoCell_NoCell (T : Txt K mg) : PySem.W.exmOne K (.ref (He.ga K "NoCell")) (.ref (He.ga K "NoCell")) = some true := by obtain ⟨w, h, X, G, c⟩ := T.ex; exact He.exm_ok (He.SaysD.fact (congrArg (fun z : He.AlT => z.1) c.t) 30 rfl)
theorem Txt.ki_NoCell_BoardError (T : Txt K mg) : PySem.W.kitOne K (.ref (He.ga K "NoCell")) (.ref (He.ga K "BoardError")) = some true := by obtain ⟨w, h, X, G, c⟩ := T.ex; exact eqB_ok (exK_at c.more 23 rfl)
theorem Txt.g_is_name (T : Txt K mg) : mg "is_name" = some (.ref (He.fAd K ("is_name", none))) := by obtain ⟨w, h, X, G, c⟩ := T.ex; exact He.glo_ok X G (He.SaysD.fact (congrArg (fun z : He.AlT => z.1) c.t) 31 rfl)
theorem Txt.g_need_names (T : Txt K mg) : mg "need_names" = some (.ref (He.fAd K ("need_names", none))) := by obtain ⟨w, h, X, G, c⟩ := T.ex; exact He.glo_ok X G (He.SaysD.fact (congrArg (fun z : He.AlT => z.1) c.t) 32 rfl)
theorem Txt.g_need_once (T : Txt K mg) : mg "need_once" = some (.ref (He.fAd K ("need_once", none))) := by obtain ⟨w, h, X, G, c⟩ := T.ex; exact He.glo_ok X G (He.SaysD.fact (congrArg (fun z : He.AlT => z.1) c.t) 33 rfl)
theorem Txt.g_need_count (T : Txt K mg) : mg "need_count" = some (.ref (He.fAd K ("need_count", none))) := by obtain ⟨w, h, X, G, c⟩ := T.ex; exact He.glo_ok X G (He.SaysD.fact (congrArg (fun z : He.AlT => z.1) c.t) 34 rfl)
theorem Txt.g_need_values (T : Txt K mg) : mg "need_values" = some (.ref (He.fAd K ("need_values", none))) := by obtain ⟨w, h, X, G, c⟩ := T.ex; exact He.glo_ok X G (He.SaysD.fact (congrArg (fun z : He.AlT => z.1) c.t) 35 rfl)
theorem Txt.g_l_cell_at (T : Txt K mg) : mg "_law_cell_at" = some (.ref (He.fAd K ("_law_cell_at", none))) := by obtain ⟨w, h, X, G, c⟩ := T.ex; exact He.glo_ok X G (He.SaysD.fact (congrArg (fun z : He.AlT => z.1) c.t) 36 rfl)
theorem Txt.g_l_state (T : Txt K mg) : mg "_law_state" = some (.ref (He.fAd K ("_law_state", none))) := by obtain ⟨w, h, X, G, c⟩ := T.ex; exact He.glo_ok X G (He.SaysD.fact (congrArg (fun z : He.AlT => z.1) c.t) 37 rfl)
theorem Txt.g_l_digit (T : Txt K mg) : mg "_law_digit" = some (.ref (He.fAd K ("_law_digit", none))) := by obtain ⟨w, h, X, G, c⟩ := T.ex; exact He.glo_ok X G (He.SaysD.fact (congrArg (fun z : He.AlT => z.1) c.t) 38 rfl)
theorem Txt.g_l_name (T : Txt K mg) : mg "_law_name" = some (.ref (He.fAd K ("_law_name", none))) := by obtain ⟨w, h, X, G, c⟩ := T.ex; exact He.glo_ok X G (He.SaysD.fact (congrArg (fun z : He.AlT => z.1) c.t) 39 rfl)
theorem Txt.g_l_names (T : Txt K mg) : mg "_law_names" = some (.ref (He.fAd K ("_law_names", none))) := by obtain ⟨w, h, X, G, c⟩ := T.ex; exact He.glo_ok X G (He.SaysD.fact (congrArg (fun z : He.AlT => z.1) c.t) 40 rfl)
theorem Txt.g_l_cells (T : Txt K mg) : mg "_law_cells" = some (.ref (He.fAd K ("_law_cells", none))) := by obtain ⟨w, h, X, G, c⟩ := T.ex; exact He.glo_ok X G (He.SaysD.fact (congrArg (fun z : He.AlT => z.1) c.t) 41 rfl)
theorem Txt.g_l_other (T : Txt K mg) : mg "_law_other" = some (.ref (He.fAd K ("_law_other", none))) := by obtain ⟨w, h, X, G, c⟩ := T.ex; exact He.glo_ok X G (He.SaysD.fact (congrArg (fun z : He.AlT => z.1) c.t) 42 rfl)
theorem Txt.g_l_no_cell (T : Txt K mg) : mg "_law_no_cell" = some (.ref (He.fAd K ("_law_no_cell", none))) := by obtain ⟨w, h, X, G, c⟩ := T.ex; exact He.glo_ok X G (He.SaysD.fact (congrArg (fun z : He.AlT => z.1) c.t) 43 rfl)
theorem Txt.g_l_right (T : Txt K mg) : mg "_law_right" = some (.ref (He.fAd K ("_law_right", none))) := by obtain ⟨w, h, X, G, c⟩ := T.ex; exact He.glo_ok X G (He.SaysD.fact (congrArg (fun z : He.AlT => z.1) c.t) 44 rfl)
theorem Txt.g_law (T : Txt K mg) : mg "law" = some (.ref (He.fAd K ("law", none))) := by obtain ⟨w, h, X, G, c⟩ := T.ex; exact He.glo_ok X G (He.SaysD.fact (congrArg (fun z : He.AlT => z.1) c.t) 45 rfl)
theorem Txt.d_BadCount_init (T : Txt K mg) : ∃ fd, FunD K "__init__" "BadCount.__init__" (defArgs s_BadCount_init) (defBody s_BadCount_init) (defScope s_BadCount_init) [] [] (He.fAd K ("BadCount", some "__init__")) fd := by obtain ⟨w, h, X, G, c⟩ := T.ex; exact He.SaysD.def_ (congrArg (fun z : He.AlT => z.1) c.t) 0 rfl
theorem Txt.d_NoName_init (T : Txt K mg) : ∃ fd, FunD K "__init__" "NoName.__init__" (defArgs s_NoName_init) (defBody s_NoName_init) (defScope s_NoName_init) [] [] (He.fAd K ("NoName", some "__init__")) fd := by obtain ⟨w, h, X, G, c⟩ := T.ex; exact He.SaysD.def_ (congrArg (fun z : He.AlT => z.1) c.t) 1 rfl
theorem Txt.d_Twice_init (T : Txt K mg) : ∃ fd, FunD K "__init__" "Twice.__init__" (defArgs s_Twice_init) (defBody s_Twice_init) (defScope s_Twice_init) [] [] (He.fAd K ("Twice", some "__init__")) fd := by obtain ⟨w, h, X, G, c⟩ := T.ex; exact He.SaysD.def_ (congrArg (fun z : He.AlT => z.1) c.t) 2 rfl
theorem Txt.d_NoCell_init (T : Txt K mg) : ∃ fd, FunD K "__init__" "NoCell.__init__" (defArgs s_NoCell_init) (defBody s_NoCell_init) (defScope s_NoCell_init) [] [] (He.fAd K ("NoCell", some "__init__")) fd := by obtain ⟨w, h, X, G, c⟩ := T.ex; exact He.SaysD.def_ (congrArg (fun z : He.AlT => z.1) c.t) 3 rfl
theorem Txt.d_is_name (T : Txt K mg) : ∃ fd, FunD K "is_name" "is_name" (defArgs s_is_name) (defBody s_is_name) (defScope s_is_name) [] [] (He.fAd K ("is_name", none)) fd := by obtain ⟨w, h, X, G, c⟩ := T.ex; exact He.SaysD.def_ (congrArg (fun z : He.AlT => z.1) c.t) 4 rfl
theorem Txt.d_need_names (T : Txt K mg) : ∃ fd, FunD K "need_names" "need_names" (defArgs s_need_names) (defBody s_need_names) (defScope s_need_names) [] [] (He.fAd K ("need_names", none)) fd := by obtain ⟨w, h, X, G, c⟩ := T.ex; exact He.SaysD.def_ (congrArg (fun z : He.AlT => z.1) c.t) 5 rfl
theorem Txt.d_need_once (T : Txt K mg) : ∃ fd, FunD K "need_once" "need_once" (defArgs s_need_once) (defBody s_need_once) (defScope s_need_once) [] [] (He.fAd K ("need_once", none)) fd := by obtain ⟨w, h, X, G, c⟩ := T.ex; exact He.SaysD.def_ (congrArg (fun z : He.AlT => z.1) c.t) 6 rfl
theorem Txt.d_need_count (T : Txt K mg) : ∃ fd, FunD K "need_count" "need_count" (defArgs s_need_count) (defBody s_need_count) (defScope s_need_count) [] [] (He.fAd K ("need_count", none)) fd := by obtain ⟨w, h, X, G, c⟩ := T.ex; exact He.SaysD.def_ (congrArg (fun z : He.AlT => z.1) c.t) 7 rfl
theorem Txt.d_Board_init (T : Txt K mg) : ∃ fd, FunD K "__init__" "Board.__init__" (defArgs s_Board_init) (defBody s_Board_init) (defScope s_Board_init) [] [] (He.fAd K ("Board", some "__init__")) fd := by obtain ⟨w, h, X, G, c⟩ := T.ex; exact He.SaysD.def_ (congrArg (fun z : He.AlT => z.1) c.t) 8 rfl
theorem Txt.d_Board_cells (T : Txt K mg) : ∃ fd, FunD K "cells" "Board.cells" (defArgs s_Board_cells) (defBody s_Board_cells) (defScope s_Board_cells) [] [] (He.fAd K ("Board", some "cells")) fd := by obtain ⟨w, h, X, G, c⟩ := T.ex; exact He.SaysD.def_ (congrArg (fun z : He.AlT => z.1) c.t) 9 rfl
theorem Txt.d_Board_values_of (T : Txt K mg) : ∃ fd, FunD K "values_of" "Board.values_of" (defArgs s_Board_values_of) (defBody s_Board_values_of) (defScope s_Board_values_of) [] [] (He.fAd K ("Board", some "values_of")) fd := by obtain ⟨w, h, X, G, c⟩ := T.ex; exact He.SaysD.def_ (congrArg (fun z : He.AlT => z.1) c.t) 10 rfl
theorem Txt.d_Board_first (T : Txt K mg) : ∃ fd, FunD K "first" "Board.first" (defArgs s_Board_first) (defBody s_Board_first) (defScope s_Board_first) [] [] (He.fAd K ("Board", some "first")) fd := by obtain ⟨w, h, X, G, c⟩ := T.ex; exact He.SaysD.def_ (congrArg (fun z : He.AlT => z.1) c.t) 11 rfl
theorem Txt.d_Board_eq (T : Txt K mg) : ∃ fd, FunD K "__eq__" "Board.__eq__" (defArgs s_Board_eq) (defBody s_Board_eq) (defScope s_Board_eq) [] [] (He.fAd K ("Board", some "__eq__")) fd := by obtain ⟨w, h, X, G, c⟩ := T.ex; exact He.SaysD.def_ (congrArg (fun z : He.AlT => z.1) c.t) 12 rfl
theorem Txt.d_need_values (T : Txt K mg) : ∃ fd, FunD K "need_values" "need_values" (defArgs s_need_values) (defBody s_need_values) (defScope s_need_values) [] [] (He.fAd K ("need_values", none)) fd := by obtain ⟨w, h, X, G, c⟩ := T.ex; exact He.SaysD.def_ (congrArg (fun z : He.AlT => z.1) c.t) 13 rfl
theorem Txt.d_l_cell_at (T : Txt K mg) : ∃ fd, FunD K "_law_cell_at" "_law_cell_at" (defArgs s_l_cell_at) (defBody s_l_cell_at) (defScope s_l_cell_at) [] [] (He.fAd K ("_law_cell_at", none)) fd := by obtain ⟨w, h, X, G, c⟩ := T.ex; exact He.SaysD.def_ (congrArg (fun z : He.AlT => z.1) c.t) 14 rfl
theorem Txt.d_l_state (T : Txt K mg) : ∃ fd, FunD K "_law_state" "_law_state" (defArgs s_l_state) (defBody s_l_state) (defScope s_l_state) [] [] (He.fAd K ("_law_state", none)) fd := by obtain ⟨w, h, X, G, c⟩ := T.ex; exact He.SaysD.def_ (congrArg (fun z : He.AlT => z.1) c.t) 15 rfl
theorem Txt.d_l_digit (T : Txt K mg) : ∃ fd, FunD K "_law_digit" "_law_digit" (defArgs s_l_digit) (defBody s_l_digit) (defScope s_l_digit) [] [] (He.fAd K ("_law_digit", none)) fd := by obtain ⟨w, h, X, G, c⟩ := T.ex; exact He.SaysD.def_ (congrArg (fun z : He.AlT => z.1) c.t) 16 rfl
theorem Txt.d_l_name (T : Txt K mg) : ∃ fd, FunD K "_law_name" "_law_name" (defArgs s_l_name) (defBody s_l_name) (defScope s_l_name) [] [] (He.fAd K ("_law_name", none)) fd := by obtain ⟨w, h, X, G, c⟩ := T.ex; exact He.SaysD.def_ (congrArg (fun z : He.AlT => z.1) c.t) 17 rfl
theorem Txt.d_l_names (T : Txt K mg) : ∃ fd, FunD K "_law_names" "_law_names" (defArgs s_l_names) (defBody s_l_names) (defScope s_l_names) [] [] (He.fAd K ("_law_names", none)) fd := by obtain ⟨w, h, X, G, c⟩ := T.ex; exact He.SaysD.def_ (congrArg (fun z : He.AlT => z.1) c.t) 18 rfl
theorem Txt.d_l_cells (T : Txt K mg) : ∃ fd, FunD K "_law_cells" "_law_cells" (defArgs s_l_cells) (defBody s_l_cells) (defScope s_l_cells) [] [] (He.fAd K ("_law_cells", none)) fd := by obtain ⟨w, h, X, G, c⟩ := T.ex; exact He.SaysD.def_ (congrArg (fun z : He.AlT => z.1) c.t) 19 rfl
theorem Txt.d_l_other (T : Txt K mg) : ∃ fd, FunD K "_law_other" "_law_other" (defArgs s_l_other) (defBody s_l_other) (defScope s_l_other) [] [] (He.fAd K ("_law_other", none)) fd := by obtain ⟨w, h, X, G, c⟩ := T.ex; exact He.SaysD.def_ (congrArg (fun z : He.AlT => z.1) c.t) 20 rfl
theorem Txt.d_l_no_cell (T : Txt K mg) : ∃ fd, FunD K "_law_no_cell" "_law_no_cell" (defArgs s_l_no_cell) (defBody s_l_no_cell) (defScope s_l_no_cell) [] [] (He.fAd K ("_law_no_cell", none)) fd := by obtain ⟨w, h, X, G, c⟩ := T.ex; exact He.SaysD.def_ (congrArg (fun z : He.AlT => z.1) c.t) 21 rfl
theorem Txt.d_l_right (T : Txt K mg) : ∃ fd, FunD K "_law_right" "_law_right" (defArgs s_l_right) (defBody s_l_right) (defScope s_l_right) [] [] (He.fAd K ("_law_right", none)) fd := by obtain ⟨w, h, X, G, c⟩ := T.ex; exact He.SaysD.def_ (congrArg (fun z : He.AlT => z.1) c.t) 22 rfl
theorem Txt.d_law (T : Txt K mg) : ∃ fd, FunD K "law" "law" (defArgs s_law) (defBody s_law) (defScope s_law) [] [] (He.fAd K ("law", none)) fd := by obtain ⟨w, h, X, G, c⟩ := T.ex; exact He.SaysD.def_ (congrArg (fun z : He.AlT => z.1) c.t) 23 rfl
end
local macro_rules | `(tactic| walk_at "s") => `(tactic| first
  | with_reducible refine s_seq ?_
  | with_reducible refine s_asg ?_
  | with_reducible refine s_gn ?_
  | ((with_reducible show tVar _ _ _ _); refine s_var rfl ?_)
  | with_reducible refine s_c ?_
  | with_reducible refine s_op ?_
  | with_reducible refine s_cons ?_
  | with_reducible refine s_nil ?_
  | with_reducible refine s_cb ?_
  | with_reducible refine s_call ?_
  | with_reducible refine s_ifS ?_
  | with_reducible refine s_ret ?_
  | with_reducible refine s_retN ?_
  | with_reducible refine s_drop ?_
  | with_reducible refine s_next ?_
  | with_reducible refine s_test ?_
  | with_reducible refine s_B ?_
  | with_reducible refine s_bl ?_
  | with_reducible refine s_ib ?_
  | with_reducible refine s_not ?_
  | with_reducible refine s_and ?_
  | with_reducible refine s_or ?_
  | with_reducible refine s_andV ?_
  | with_reducible refine s_orV ?_
  | with_reducible refine s_notV ?_
  | with_reducible refine s_ifE ?_
  | with_reducible refine s_un ?_
  | with_reducible refine s_tup ?_
  | with_reducible refine s_lst ?_
  | with_reducible refine s_chain ?_
  | with_reducible refine s_sl ?_
  | with_reducible refine s_no ?_
  | with_reducible refine s_part ?_
  | with_reducible refine s_fld ?_
  | with_reducible refine s_bm ?_
  | with_reducible refine s_I0 ?_
  | with_reducible refine s_addI ?_
  | with_reducible refine s_in1 ?_
  | with_reducible refine s_notin1 ?_
  | with_reducible refine s_for ?_
  | with_reducible refine s_gcons ?_
  | with_reducible refine s_gnil ?_
  | with_reducible refine s_enum ?_
  | with_reducible refine s_mkO ?_
  | with_reducible refine s_meth ?_
  | with_reducible refine s_make ?_
  | with_reducible refine s_gsub ?_
  | with_reducible refine s_rng1 ?_
  | with_reducible refine s_ckw ?_
  | with_reducible refine s_sfld ?_
  | with_reducible refine s_lc ?_
  | with_reducible refine iteT ?_
  | with_reducible refine iteF ?_
  | with_reducible refine iteNF ?_
  | with_reducible refine iteNT ?_)
local macro_rules | `(tactic| walk_at "go") => `(tactic| (walk_at "s"; repeat walk_at "s"))
local macro_rules | `(tactic| walk_at "new") => `(tactic| (intro p hp; generalize hH : upd _ p _ = H2; obtain ⟨s2, e2⟩ := new_facts hH hp; clear hH))
local macro_rules | `(tactic| walk_at "made") => `(tactic| (intro x dx nx nd ne; generalize hH : upd (upd _ dx _) x _ = H2; obtain ⟨s2, e2⟩ := made_facts hH nx nd ne; clear hH))
section
variable {P : Program} {w : World} {K : PySem.W.Frag} {mg : Str → Option Value} {base : Heap}
def fl1 (f : Str) : List V → Option (List (Str × V))
  | [v] => some [(f, v)]
  | _ => none
def fl2 (f f' : Str) : List V → Option (List (Str × V))
  | [v, v'] => some [(f', v'), (f, v)]
  | _ => none
theorem s_ost {te to : TE} {f : Str} {D : Ends} {σ : L2.St} {H : Hp} (k : te σ H fun y H1 => to σ H1 fun x H2 => ∃ a C : Addr, x = .ref a ∧ OexC K C ∧ PySem.W.findIn K (.ref C) f = some none ∧ ((H2 a = some (exo a C none) ∧ ∀ dx, H2 dx = none → dx ≠ a → D.nx σ (upd (upd H2 dx (exd dx [(f, y)])) a (exo a C (some dx)))) ∨
    ∃ (dx : Addr) (fs : List (Str × V)), H2 a = some (exo a C (some dx)) ∧ H2 dx = some (exd dx fs) ∧ fs.length ≤ 900 ∧ D.nx σ (upd H2 dx (exd dx ((f, y) :: fs))))) : tOst K f to te D σ H := k
theorem x_len1 {C : Addr} {f : Str} : ∀ vs H Q E, spX C (fl1 f) vs H Q E → vs.length = 2 := by
  rintro vs H Q E ⟨a, ws, fs, rfl, hf, _⟩
  match ws, hf with
  | [v], _ => rfl
theorem x_len2 {C : Addr} {f f' : Str} : ∀ vs H Q E, spX C (fl2 f f') vs H Q E → vs.length = 3 := by
  rintro vs H Q E ⟨a, ws, fs, rfl, hf, _⟩
  match ws, hf with
  | [v, v'], _ => rfl
theorem x_read1 {C : Addr} {f : Str} {N : List Str} (hN : N.length = 2) (T : OexC K C) (nf : PySem.W.findIn K (.ref C) f = some none) (vs : List V) (H : Hp) (Q : VK) (E : XK) (h : spX C (fl1 f) vs H Q E) :
    tOst K f (tVar 0) (tVar 1) { nx := fun _ H' => Q .non H', rt := Q } (start N vs) H := by
  obtain ⟨a, ws, fs, rfl, hf, ha, k⟩ := h
  match ws, hf with
  | [v], hf =>
    cases hf
    refine s_ost ⟨v, rfl, .ref a, rfl, a, C, rfl, T, nf, .inl ⟨ha, fun dx hx hne => ?_⟩⟩
    refine k dx _ hx hne ?_ upd_same fun b h1 h2 => by rw [upd_ne h1, upd_ne h2]
    rw [upd_ne hne, upd_same]
theorem x_read2 {C : Addr} {f f' : Str} {N : List Str} (hN : N.length = 3) (T : OexC K C) (nf : PySem.W.findIn K (.ref C) f = some none) (nf' : PySem.W.findIn K (.ref C) f' = some none) (vs : List V) (H : Hp) (Q : VK) (E : XK) (h : spX C (fl2 f f') vs H Q E) :
    tSeq (tOst K f (tVar 0) (tVar 1)) (tOst K f' (tVar 0) (tVar 2)) { nx := fun _ H' => Q .non H', rt := Q } (start N vs) H := by
  obtain ⟨a, ws, fs, rfl, hf, ha, k⟩ := h
  match ws, hf with
  | [v, v'], hf =>
    cases hf
    refine s_seq (s_ost ⟨v, rfl, .ref a, rfl, a, C, rfl, T, nf, .inl ⟨ha, fun dx hx hne => ?_⟩⟩)
    show tOst K f' (tVar 0) (tVar 2) _ _ _
    refine s_ost ?_
    refine ⟨v', rfl, .ref a, rfl, a, C, rfl, T, nf', .inr ⟨dx, [(f, v)], upd_same, (by rw [upd_ne hne, upd_same]), (by show 1 ≤ 900; decide), ?_⟩⟩
    refine k dx _ hx hne upd_same ?_ fun b h1 h2 => by rw [upd_ne h2, upd_ne h1, upd_ne h2]
    rw [upd_ne (Ne.symm hne), upd_same]
theorem x_NoName (T : Txt K mg) : Exk P w K mg base 1 "NoName" (He.ga K "NoName") (fl1 "name") := by
  obtain ⟨fd, F⟩ := T.d_NoName_init
  exact ⟨_, fd, _, T.x_NoName, T.xi_NoName, T.xt_NoName, F.ok sc_NoName_init x_len1 (fun cdv A outer s H vs Q E hr h => ⟨_, PSs.nox (pss_one (ps_ost (pv 0) (pv 1))), x_read1 rfl T.x_NoName.o T.na_NoName_name vs H Q E h⟩), T.g_NoName, F.bindsN fun _ _ _ _ _ _ us hl => match us, hl with | [_, _], _ => rfl⟩
theorem x_Twice (T : Txt K mg) : Exk P w K mg base 1 "Twice" (He.ga K "Twice") (fl1 "name") := by
  obtain ⟨fd, F⟩ := T.d_Twice_init
  exact ⟨_, fd, _, T.x_Twice, T.xi_Twice, T.xt_Twice, F.ok sc_Twice_init x_len1 (fun cdv A outer s H vs Q E hr h => ⟨_, PSs.nox (pss_one (ps_ost (pv 0) (pv 1))), x_read1 rfl T.x_Twice.o T.na_Twice_name vs H Q E h⟩), T.g_Twice, F.bindsN fun _ _ _ _ _ _ us hl => match us, hl with | [_, _], _ => rfl⟩
theorem x_NoCell (T : Txt K mg) : Exk P w K mg base 1 "NoCell" (He.ga K "NoCell") (fl1 "name") := by
  obtain ⟨fd, F⟩ := T.d_NoCell_init
  exact ⟨_, fd, _, T.x_NoCell, T.xi_NoCell, T.xt_NoCell, F.ok sc_NoCell_init x_len1 (fun cdv A outer s H vs Q E hr h => ⟨_, PSs.nox (pss_one (ps_ost (pv 0) (pv 1))), x_read1 rfl T.x_NoCell.o T.na_NoCell_name vs H Q E h⟩), T.g_NoCell, F.bindsN fun _ _ _ _ _ _ us hl => match us, hl with | [_, _], _ => rfl⟩
theorem x_BadCount (T : Txt K mg) : Exk P w K mg base 1 "BadCount" (He.ga K "BadCount") (fl2 "what" "count") := by
  obtain ⟨fd, F⟩ := T.d_BadCount_init
  exact ⟨_, fd, _, T.x_BadCount, T.xi_BadCount, T.xt_BadCount, F.ok sc_BadCount_init x_len2 (fun cdv A outer s H vs Q E hr h => ⟨_, PSs.nox (pss_cons (ps_ost (pv 0) (pv 1))
      (pss_one (ps_ost (pv 0) (pv 2)))), x_read2 rfl T.x_BadCount.o T.na_BadCount_what T.na_BadCount_count vs H Q E h⟩), T.g_BadCount, F.bindsN fun _ _ _ _ _ _ us hl => match us, hl with | [_, _, _], _ => rfl⟩
end
theorem err1_in {C : Addr} {f : Str} {v : V} {H : Hp} {E : XK} (e : Err1 C f v E H) : [v].length ≤ 1000 ∧ ∀ a, H a = none → spX C (fl1 f) (.ref a :: ([v] ++ [])) (upd H a (exo a C none)) (fun u H2 => u = .non ∧ ∃ (d : Addr) (fs : List (Str × V)), H2 a = some (exo a C (some d)) ∧ H2 d = some (exd d fs) ∧ H d = none ∧ E (.ref C) (some d) (upd (del H2 a) d (.xd fs))) (fun _ _ _ => False) :=
  mkA_in rfl (by show 1 ≤ 1000; decide) e
theorem err2_in {C : Addr} {f f' : Str} {v v' : V} {H : Hp} {E : XK} (e : Err2 C f f' v v' E H) : [v, v'].length ≤ 1000 ∧ ∀ a, H a = none → spX C (fl2 f f') (.ref a :: ([v, v'] ++ [])) (upd H a (exo a C none)) (fun u H2 => u = .non ∧ ∃ (d : Addr) (fs : List (Str × V)), H2 a = some (exo a C (some d)) ∧ H2 d = some (exd d fs) ∧ H d = none ∧ E (.ref C) (some d) (upd (del H2 a) d (.xd fs))) (fun _ _ _ => False) :=
  mkA_in rfl (by show 2 ≤ 1000; decide) e

section
variable {P : Program} {w : World} {K : PySem.W.Frag} {mg : Str → Option Value} {base : Heap}
def LETS : Str := "abcdefghijklmnopqrstuvwxyz"
def LFS : Str := "abcdefghijklmnopqrstuvwxyz0123456789"
/-- a name: 1 to 10 signs, a letter ahead -/
def isNm (l : List Nat) : Bool := decide (1 ≤ l.length) && decide (l.length ≤ 10) && (match l with | c :: _ => decide (c ∈ LETS.cps.toList) | [] => false) && l.all fun c => decide (c ∈ LFS.cps.toList)
theorem isNm_long {l : List Nat} (h : ¬ l.length ≤ 10) : isNm l = false := by simp only [isNm, decide_eq_false h, Bool.and_false, Bool.false_and]
theorem isNm_empty {l : List Nat} (h : ¬ 1 ≤ l.length) : isNm l = false := by simp only [isNm, decide_eq_false h, Bool.false_and]
theorem isNm_head {c : Nat} {r : List Nat} (h : ¬ c ∈ LETS.cps.toList) : isNm (c :: r) = false := by simp only [isNm, decide_eq_false h, Bool.and_false, Bool.false_and]
theorem isNm_all {c : Nat} {r : List Nat} (h1 : 1 ≤ (c :: r).length) (h2 : (c :: r).length ≤ 10) (h : c ∈ LETS.cps.toList) : isNm (c :: r) = (c :: r).all fun c => decide (c ∈ LFS.cps.toList) := by simp only [isNm, decide_eq_true h, decide_eq_true h1, decide_eq_true h2, Bool.true_and]
def sp_is_name : Sp := fun vs H Q _ => ∃ z : Str, vs = [.str z] ∧ z.length ≤ 100000 ∧ ∀ H', Same H H' → Q (.bl (isNm z.cps.toList)) H'
theorem c_is_name (T : Txt K mg) : Cal P w K mg base CX0 1 "is_name" sp_is_name := by
  obtain ⟨fd, F⟩ := T.d_is_name
  refine ⟨_, fd, _, F.ok sc_is_name (fun vs H Q E h => by obtain ⟨z, rfl, _⟩ := h; rfl) (fun cdv A outer s H vs Q E hr h => ?_), T.g_is_name, F.kp, F.bindsN fun _ _ _ _ _ _ us hl => match us, hl with | [_], _ => rfl⟩
  obtain ⟨z, rfl, hz, k⟩ := h
  refine ⟨_, PSs.nox (pss_cons (ps_if (PW.pt (pw_or (pt_not (pt_chain op_le op_le pe_int (pe_callB (oLen K) (by rfl) T.n_len PySem.boot_len (pa_cons (pv 0) pa_nil)) (C8.pe_gc rfl T.c_LONGEST_NAME))) (pw_or1 (pt_cmpR (oNotIn K) (pe_ix (oIx K) (pv 0) pe_int (fun _ _ => rfl)) (C8.pe_gc rfl T.c_LETTERS) (by rfl)))))
        (pss_one (ps_ret pe_bl))
        pss_nil)
      (pss_one (ps_ret (pe_callB (oAll K rfl) (by rfl) T.n_all (by decide +kernel) (pa_cons (pe_lc (own := [("sign", 1)]) rfl sc_is_name.nd (oIt K (pv 0)) (blkOk_by (N := ["text", "sign"]) (sc := defScope s_is_name) (by decide +kernel)) (fun _ _ _ _ _ => (pg_name (i := 1) sc_is_name.nd rfl (.inl rfl))) (fun _ _ _ _ _ => pts_nil) (fun _ _ _ _ _ => (pe_cmpR (oIn K) (pv 1) (C8.pe_gc rfl T.c_LETTERS_AND_FIGURES) (by rfl)))) pa_nil))))), ?_⟩
  have hz' : z.length ≤ sizeLine := line_of hz
  have zl : z.length = z.cps.toList.length := rfl
  walk_at "go"
  refine s_lenS hz' ?_
  walk_at "go"
  refine iteD (fun h1 => ?_) fun h1 => ?_
  · walk_at "go"
    refine iteN (fun h2 => ?_) fun h2 => ?_
    · walk_at "go"
      exact isNm_long (l := z.cps.toList) (by omega) ▸ k _ (Same.refl _)
    · obtain ⟨c, r, ec⟩ : ∃ c r, z.cps.toList = c :: r := by
        have : 1 ≤ z.cps.toList.length := by omega
        match q : z.cps.toList, this with
        | c :: r, _ => exact ⟨c, r, rfl⟩
      walk_at "go"
      refine s_ixS (c := c) hz' (by rw [ec]; exact atI0) ?_
      walk_at "go"
      rw [zl, ec] at h1 h2
      rw [ec] at k
      refine iteN (fun h3 => ?_) fun h3 => ?_
      · walk_at "go"
        exact isNm_head h3 ▸ k _ (Same.refl _)
      · walk_at "go"
        refine s_itS ?_
        walk_at "go"
        refine ⟨z, rfl, lc_all still_str (fun _ i y _ => ∃ c, z.cps.toList[i]? = some c ∧ y = .bl (decide (c ∈ LFS.cps.toList))) (by omega) (fun _ _ _ _ _ _ q => q) (fun D i x acc H' _ _ hx s1 _ Q' k' => ?_) (fun D ys H' _ s1 hy hl hr => ?_) gn_mono⟩
        · obtain ⟨c', hc', rfl⟩ := hx
          walk_at "go"
          refine ⟨rfl, ?_⟩
          walk_at "go"
          exact k' _ _ (Same.refl _) ⟨c', hc', rfl⟩
        · walk_at "go"
          have e : ys = (z.cps.toList.map fun c => decide (c ∈ LFS.cps.toList)).map V.bl := by
            rw [List.map_map]
            exact ge_map hl hr
          rw [e] at hy
          refine s_all (SqL.of hy) ?_
          have e2 : ((z.cps.toList.map fun c => decide (c ∈ LFS.cps.toList)).all id) = isNm (c :: r) := by
            rw [isNm_all (by omega) (by omega) h3, ec, List.all_map]
            rfl
          rw [e2]
          exact k _ s1
  · walk_at "go"
    have h1' : ¬ 1 ≤ z.cps.toList.length := by omega
    exact isNm_empty h1' ▸ k _ (Same.refl _)
/-- the first text that is no name -/
def badNm (zs : List Str) : Option Str := zs.find? fun z => !isNm z.cps.toList
theorem badNm_none {zs : List Str} {i : Nat} (h : ∀ j z, j < i → zs[j]? = some z → isNm z.cps.toList = true) (hl : zs.length ≤ i) : badNm zs = none := by
  refine List.find?_eq_none.mpr fun z hz => ?_
  obtain ⟨j, hj, e⟩ := List.mem_iff_getElem.mp hz
  rw [h j z (by omega) (by rw [List.getElem?_eq_getElem hj, e])]
  decide
theorem find_at {α : Type} {p : α → Bool} : ∀ {l : List α} {i : Nat} {x : α}, (∀ j y, j < i → l[j]? = some y → p y = false) → l[i]? = some x → p x = true → l.find? p = some x
  | [], i, x, _, h, _ => by simp at h
  | y :: r, 0, x, _, h, hp => by
    have e : y = x := by simpa using h
    subst e
    simp [List.find?, hp]
  | y :: r, i + 1, x, hb, h, hp => by
    have h0 := hb 0 y (Nat.succ_pos _) rfl
    rw [List.find?_cons, h0]
    exact find_at (fun j z hj e => hb (j + 1) z (Nat.succ_lt_succ hj) e) h hp
theorem badNm_at {zs : List Str} {i : Nat} {z : Str} (h : ∀ j y, j < i → zs[j]? = some y → isNm y.cps.toList = true) (e : zs[i]? = some z) (hz : isNm z.cps.toList = false) : badNm zs = some z :=
  find_at (fun j y hj ey => by rw [h j y hj ey]; rfl) e (by rw [hz]; rfl)
def Small (zs : List Str) : Prop := zs.length ≤ 100000 ∧ ∀ z ∈ zs, z.length ≤ 100000
def sp_need_names (K : PySem.W.Frag) : Sp := fun vs H Q E => ∃ (a : Addr) (zs : List Str), vs = [.ref a] ∧ SqL K H a (zs.map V.str) ∧ Small zs ∧ (badNm zs = none → ∀ H', Same H H' → Q .non H') ∧ ∀ z, badNm zs = some z → Err1 (He.ga K "NoName") "name" (.str z) E H
theorem at_map {zs : List Str} {i : Nat} {x : V} (h : (zs.map V.str)[i]? = some x) : ∃ z, zs[i]? = some z ∧ x = .str z := by
  rw [List.getElem?_map] at h
  cases e : zs[i]? with
  | none => rw [e] at h; cases h
  | some z => rw [e] at h; exact ⟨z, rfl, (Option.some.inj h).symm⟩
theorem c_need_names (T : Txt K mg) : Cal P w K mg base (L2.CX P w) 3 "need_names" (sp_need_names K) := by
  obtain ⟨fd, F⟩ := T.d_need_names
  refine ⟨_, fd, _, F.ok (k := 2) sc_need_names (fun vs H Q E h => by obtain ⟨a, zs, rfl, _⟩ := h; rfl) (fun cdv A outer s H vs Q E hr h => ?_), T.g_need_names, F.kp, F.bindsN fun _ _ _ _ _ _ us hl => match us, hl with | [_], _ => rfl⟩
  obtain ⟨a, zs, rfl, hS, ⟨hl, hz⟩, k, ke⟩ := h
  refine ⟨_, (pss_one (ps_for (passes_of rfl) rfl (oIt K (pv 0)) (pg_name (i := 1) sc_need_names.nd rfl (.inl rfl))
        (pss_one (ps_if (pt_not (pt_val (pe_c (c_is_name T) hr (by first | decide | omega) at0 rfl (pa_cons (pv 1) pa_nil))))
          (pss_one (ps_raise rfl (takes_of (E := E) rfl rfl rfl rfl) (pmk_A (x_NoName T) hr (by first | decide | omega) rfl (pa_cons (pv 1) pa_nil))))
          pss_nil)))), ?_⟩
  walk_at "go"
  refine s_itL ?_
  walk_at "go"
  refine ⟨a, rfl, ⟨_, hS⟩, for_all (still_list hS) (fun i σ _ => (∃ v, σ = [some (.ref a), v]) ∧ ∀ j z, j < i → zs[j]? = some z → isNm z.cps.toList = true) (fun _ _ _ _ _ q => q) ⟨⟨none, rfl⟩, fun j z h => absurd h (Nat.not_lt_zero j)⟩ (fun i x σ' H' hi hx s1 hp => ?_) fun σ' H' s1 hp => ?_⟩
  · obtain ⟨⟨v, rfl⟩, hp⟩ := hp
    obtain ⟨z, ez, rfl⟩ := at_map hx
    walk_at "go"
    refine ⟨z, rfl, hz z (List.mem_of_getElem? ez), fun H2 s2 => ?_⟩
    walk_at "go"
    cases e : isNm z.cps.toList with
    | false =>
      walk_at "go"
      exact err1_in ((ke z (badNm_at hp ez e)).mono (s1.trans s2))
    | true =>
      walk_at "go"
      refine ⟨s1.trans s2, ⟨_, rfl⟩, fun j y hj ey => ?_⟩
      by_cases hji : j = i
      · subst hji
        rw [ez] at ey; cases ey; exact e
      · exact hp j y (by omega) ey
  · refine k (badNm_none hp.2 (by rw [List.length_map]; exact Nat.le_refl _)) _ s1
/-- the first text that stands ahead of itself -/
def dupNm (zs : List Str) : Option Str := ((List.range zs.length).find? fun i => match zs[i]? with | some z => decide (z ∈ zs.take i) | none => false).bind fun i => zs[i]?
def sp_need_once (K : PySem.W.Frag) : Sp := fun vs H Q E => ∃ (a : Addr) (zs : List Str), vs = [.ref a] ∧ SqL K H a (zs.map V.str) ∧ zs.length ≤ 100000 ∧ (dupNm zs = none → ∀ H', Same H H' → Q .non H') ∧ ∀ z, dupNm zs = some z → Err1 (He.ga K "Twice") "name" (.str z) E H
theorem dupNm_none {zs : List Str} (h : ∀ j z, zs[j]? = some z → z ∉ zs.take j) : dupNm zs = none := by
  unfold dupNm
  rw [List.find?_eq_none.mpr fun i hi => ?_]
  · rfl
  · have hi' : i < zs.length := List.mem_range.mp hi
    rw [List.getElem?_eq_getElem hi']
    simpa using h i zs[i] (List.getElem?_eq_getElem hi')
theorem dupNm_at {zs : List Str} {i : Nat} {z : Str} (h : ∀ j y, j < i → zs[j]? = some y → y ∉ zs.take j) (e : zs[i]? = some z) (hz : z ∈ zs.take i) : dupNm zs = some z := by
  unfold dupNm
  have hi : i < zs.length := (List.getElem?_eq_some_iff.mp e).1
  rw [find_at (i := i) (x := i) (fun j y hj ey => ?_) (by rw [List.getElem?_range hi]) (by rw [e]; exact decide_eq_true hz)]
  · exact e
  · have hj' : j < zs.length := by omega
    rw [List.getElem?_range hj'] at ey
    cases ey
    rw [List.getElem?_eq_getElem hj']
    exact decide_eq_false (h j zs[j] hj (List.getElem?_eq_getElem hj'))
theorem c_need_once (T : Txt K mg) : Cal P w K mg base (L2.CX P w) 3 "need_once" (sp_need_once K) := by
  obtain ⟨fd, F⟩ := T.d_need_once
  refine ⟨_, fd, _, F.ok (k := 2) sc_need_once (fun vs H Q E h => by obtain ⟨a, zs, rfl, _⟩ := h; rfl) (fun cdv A outer s H vs Q E hr h => ?_), T.g_need_once, F.kp, F.bindsN fun _ _ _ _ _ _ us hl => match us, hl with | [_], _ => rfl⟩
  obtain ⟨a, zs, rfl, hS, hl, k, ke⟩ := h
  refine ⟨_, (pss_one (ps_for (passes_of rfl) rfl (oEnum K (by rfl) T.n_enumerate (pa_cons (pv 0) pa_nil)) (oTup K (n := 2) rfl (pgs_cons (pg_name (i := 1) sc_need_once.nd rfl (.inl rfl)) (pgs_cons (pg_name (i := 2) sc_need_once.nd rfl (.inl rfl)) pgs_nil)))
        (pss_one (ps_if (pt_cmpR (oIn K) (pv 2) (pe_slice (oSl K) (pv 0) po_none (po_some (pv 1))) (by rfl))
          (pss_one (ps_raise rfl (takes_of (E := E) rfl rfl rfl rfl) (pmk_A (x_Twice T) hr (by first | decide | omega) rfl (pa_cons (pv 2) pa_nil))))
          pss_nil)))), ?_⟩
  walk_at "go"
  refine ⟨a, _, rfl, hS, for_all (still_enum hS) (fun i σ _ => (∃ u v, σ = [some (.ref a), u, v]) ∧ ∀ j z, j < i → zs[j]? = some z → z ∉ zs.take j) (fun _ _ _ _ _ q => q) ⟨⟨none, none, rfl⟩, fun j z h => absurd h (Nat.not_lt_zero j)⟩ (fun i x σ' H' hi hx s1 hp => ?_) fun σ' H' s1 hp => ?_⟩
  · obtain ⟨⟨u, v, rfl⟩, hp⟩ := hp
    obtain ⟨t, y, rfl, ht, hy⟩ := hx
    obtain ⟨z, ez, rfl⟩ := at_map hy
    refine s_gT (.inl (.inl ht)) rfl ?_
    walk_at "go"
    refine s_slL (s1.seq hS) fun p hp' => ?_
    rw [cut_to, ← List.map_take]
    refine s_inL (SqL.of upd_same) rfl (flat_strs _) ?_
    rw [inV_strs]
    walk_at "go"
    have s2 := s1.trans (same_new (o := HO.lst ((zs.take i).map V.str)) hp')
    refine iteD (fun h1 => ?_) fun h1 => ?_
    · walk_at "go"
      exact err1_in ((ke z (dupNm_at hp ez h1)).mono s2)
    · walk_at "go"
      refine ⟨s2, ⟨_, _, rfl⟩, fun j y hj ey => ?_⟩
      by_cases hji : j = i
      · subst hji
        rw [ez] at ey; cases ey; exact h1
      · exact hp j y (by omega) ey
  · refine k (dupNm_none fun j z ez => hp.2 j z ?_ ez) _ s1
    rw [List.length_map]
    exact (List.getElem?_eq_some_iff.mp ez).1
def sp_need_count (K : PySem.W.Frag) : Sp := fun vs H Q E => ∃ (w : Str) (n lo hi : Int), vs = [.str w, .int n, .int lo, .int hi] ∧ (lo ≤ n ∧ n ≤ hi → ∀ H', Same H H' → Q .non H') ∧ (¬ (lo ≤ n ∧ n ≤ hi) → Err2 (He.ga K "BadCount") "what" "count" (.str w) (.int n) E H)
theorem c_need_count (T : Txt K mg) : Cal P w K mg base (L2.CX P w) 3 "need_count" (sp_need_count K) := by
  obtain ⟨fd, F⟩ := T.d_need_count
  refine ⟨_, fd, _, F.ok (k := 2) sc_need_count (fun vs H Q E h => by obtain ⟨_, _, _, _, rfl, _⟩ := h; rfl) (fun cdv A outer s H vs Q E hr h => ?_), T.g_need_count, F.kp, F.bindsN fun _ _ _ _ _ _ us hl => match us, hl with | [_, _, _, _], _ => rfl⟩
  obtain ⟨w', n, lo, hi, rfl, k, ke⟩ := h
  refine ⟨_, (pss_one (ps_if (pt_not (pt_chain op_le op_le (pv 2) (pv 1) (pv 3)))
        (pss_one (ps_raise rfl (takes_of (E := E) rfl rfl rfl rfl) (pmk_A (x_BadCount T) hr (by first | decide | omega) rfl (pa_cons (pv 0) (pa_cons (pv 1) pa_nil)))))
        pss_nil)), ?_⟩
  walk_at "go"
  refine iteD (fun h1 => ?_) fun h1 => ?_
  · walk_at "go"
    refine iteN (fun h2 => ?_) fun h2 => ?_
    · walk_at "go"
      exact err2_in (ke fun h => h2 h.2)
    · walk_at "go"
      exact k ⟨h1, h2⟩ _ (Same.refl _)
  · walk_at "go"
    exact err2_in (ke fun h => h1 h.1)
def sp_need_values (K : PySem.W.Frag) : Sp := fun vs H Q E => ∃ (a : Addr) (zs : List Str), vs = [.ref a] ∧ SqL K H a (zs.map V.str) ∧ Small zs ∧
  (¬ (2 ≤ zs.length ∧ zs.length ≤ 4) → Err2 (He.ga K "BadCount") "what" "count" (.str "values") (.int zs.length) E H) ∧
  (2 ≤ zs.length ∧ zs.length ≤ 4 → (∀ z, badNm zs = some z → Err1 (He.ga K "NoName") "name" (.str z) E H) ∧
    (badNm zs = none → (∀ z, dupNm zs = some z → Err1 (He.ga K "Twice") "name" (.str z) E H) ∧ (dupNm zs = none → ∀ H', Same H H' → Q .non H')))
theorem c_need_values (T : Txt K mg) : Cal P w K mg base (L2.CX P w) 4 "need_values" (sp_need_values K) := by
  obtain ⟨fd, F⟩ := T.d_need_values
  refine ⟨_, fd, _, F.ok (k := 3) sc_need_values (fun vs H Q E h => by obtain ⟨_, _, rfl, _⟩ := h; rfl) (fun cdv A outer s H vs Q E hr h => ?_), T.g_need_values, F.kp, F.bindsN fun _ _ _ _ _ _ us hl => match us, hl with | [_], _ => rfl⟩
  obtain ⟨a, zs, rfl, hS, hz, k0, k⟩ := h
  refine ⟨_, (pss_cons (ps_expr (pe_c (c_need_count T) hr (by first | decide | omega) (atW (takes_of (E := E) rfl rfl rfl rfl)) rfl (pa_cons pe_str (pa_cons (pe_callB (oLen K) (by rfl) T.n_len PySem.boot_len (pa_cons (pv 0) pa_nil)) (pa_cons pe_int (pa_cons pe_int pa_nil))))))
      (pss_cons (ps_expr (pe_c (c_need_names T) hr (by first | decide | omega) (atW (takes_of (E := E) rfl rfl rfl rfl)) rfl (pa_cons (pv 0) pa_nil)))
      (pss_one (ps_expr (pe_c (c_need_once T) hr (by first | decide | omega) (atW (takes_of (E := E) rfl rfl rfl rfl)) rfl (pa_cons (pv 0) pa_nil)))))), ?_⟩
  walk_at "go"
  refine s_lenL hS ?_
  walk_at "go"
  rw [List.length_map]
  refine ⟨_, _, _, _, rfl, fun h1 H1 s1 => ?_, fun h1 => k0 fun h => h1 ⟨by omega, by omega⟩⟩
  have k := k ⟨by omega, by omega⟩
  walk_at "go"
  refine ⟨a, zs, rfl, s1.seq hS, hz, fun h2 H2 s2 => ?_, fun z h2 => (k.1 z h2).mono s1⟩
  have k := k.2 h2
  walk_at "go"
  refine ⟨a, zs, rfl, (s1.trans s2).seq hS, hz.1, fun h3 H3 s3 => ?_, fun z h3 => (k.1 z h3).mono (s1.trans s2)⟩
  exact k.2 h3 _ ((s1.trans s2).trans s3)
end

section
variable {P : Program} {w : World} {K : PySem.W.Frag} {mg : Str → Option Value} {base : Heap}
/-- why something is refused -/
inductive Rf where
  | count (w : Str) (n : Int)
  | noName (z : Str)
  | twice (z : Str)
def Ra (K : PySem.W.Frag) (E : XK) (H : Hp) : Rf → Prop
  | .count w n => Err2 (He.ga K "BadCount") "what" "count" (.str w) (.int n) E H
  | .noName z => Err1 (He.ga K "NoName") "name" (.str z) E H
  | .twice z => Err1 (He.ga K "Twice") "name" (.str z) E H
theorem Ra.mono {E : XK} {H H' : Hp} (s : Same H H') : ∀ {r : Rf}, Ra K E H r → Ra K E H' r
  | .count _ _, h => Err2.mono h s
  | .noName _, h => Err1.mono h s
  | .twice _, h => Err1.mono h s
/-- a cell, its name and its values -/
abbrev Ce := Str × List Str
def valuesRf (vs : List Str) : Option Rf := if 2 ≤ vs.length ∧ vs.length ≤ 4 then (match badNm vs with | some z => some (.noName z) | none => (dupNm vs).map .twice) else some (.count "values" vs.length)
def cellRf (c : Ce) : Option Rf := if isNm c.1.cps.toList then valuesRf c.2 else some (.noName c.1)
def boardRf (cs : List Ce) : Option Rf := if 1 ≤ cs.length ∧ cs.length ≤ 3 then (match cs.findSome? cellRf with | some r => some r | none => (dupNm (cs.map (·.1))).map .twice) else some (.count "cells" cs.length)
def PairL (K : PySem.W.Frag) (a : Addr) (c : Ce) (H : Hp) : Prop := ∃ l, SqT K H a [.str c.1, .ref l] ∧ SqL K H l (c.2.map V.str)
def PairT (K : PySem.W.Frag) (a : Addr) (c : Ce) (H : Hp) : Prop := ∃ l, SqT K H a [.str c.1, .ref l] ∧ SqT K H l (c.2.map V.str)
theorem PairL.mono {a : Addr} {c : Ce} {H H' : Hp} (s : Same H H') : PairL K a c H → PairL K a c H' := fun ⟨l, h1, h2⟩ => ⟨l, same_t s h1, s.seq h2⟩
theorem PairT.mono {a : Addr} {c : Ce} {H H' : Hp} (s : Same H H') : PairT K a c H → PairT K a c H' := fun ⟨l, h1, h2⟩ => ⟨l, same_t s h1, same_t s h2⟩
def CellsOk (cs : List Ce) : Prop := cs.length ≤ 100000 ∧ ∀ c ∈ cs, c.1.length ≤ 100000 ∧ Small c.2
/-- a Board at x: its tuple of pairs of a name and a tuple of values -/
def BoardAt (K : PySem.W.Frag) (x : Addr) (cs : List Ce) (H : Hp) : Prop := ∃ dx t as, H x = some (.ins (He.ga K "Board") dx [("_cells", .ref t)]) ∧ SqT K H t (as.map V.ref) ∧ AllAt (PairT K) H as cs
def sp_Board_init (K : PySem.W.Frag) : Sp := fun vs H Q E => ∃ (x a : Addr) (dx : Addr) (as : List Addr) (cs : List Ce), vs = [.ref x, .ref a] ∧ H x = some (.ins (He.ga K "Board") dx []) ∧ SqL K H a (as.map V.ref) ∧ AllAt (PairL K) H as cs ∧ CellsOk cs ∧
  (∀ r, boardRf cs = some r → Ra K E H r) ∧ (boardRf cs = none → ∀ H', BoardAt K x cs H' → (∀ b o, H b = some o → b ≠ x → H' b = some o) → Q .non H')
theorem sqT_ne {H : Hp} {x a : Addr} {xs : List V} {C dx : Addr} {fs : List (Str × V)} (h : SqT K H a xs) (hx : H x = some (.ins C dx fs)) (y : HO) : SqT K (upd H x y) a xs := by
  rcases h with (h | ⟨ob, h⟩) | h
  · have : a ≠ x := ne_of h hx (by intro q; cases q)
    exact .inl (.inl (by rw [upd_ne this]; exact h))
  · have : a ≠ x := ne_of h hx (by intro q; cases q)
    exact .inl (.inr ⟨ob, by rw [upd_ne this]; exact h⟩)
  · exact .inr h
theorem mk_Board (T : Txt K mg) : Mak P w K mg base (L2.CX P w) 5 "Board" (He.ga K "Board") (sp_Board_init K) := by
  obtain ⟨fd, F⟩ := T.d_Board_init
  refine ⟨_, fd, _, T.mk_Board, F.ok (k := 4) sc_Board_init (fun vs H Q E h => by obtain ⟨_, _, _, _, _, rfl, _⟩ := h; rfl) (fun cdv A outer s H vs Q E hr h => ?_), T.g_Board, F.bindsN fun _ _ _ _ _ _ us hl => match us, hl with | [_, _], _ => rfl⟩
  obtain ⟨x, a, dx, as, cs, rfl, hx, hS, hA, ⟨hl, hc⟩, ke, k⟩ := h
  refine ⟨_, (pss_cons (ps_expr (pe_c (c_need_count T) hr (by first | decide | omega) (atW (takes_of (E := E) rfl rfl rfl rfl)) rfl (pa_cons pe_str (pa_cons (pe_callB (oLen K) (by rfl) T.n_len PySem.boot_len (pa_cons (pv 1) pa_nil)) (pa_cons pe_int (pa_cons pe_int pa_nil))))))
      (pss_cons (ps_for (passes_of rfl) rfl (oIt K (pv 1)) (oTup K (n := 2) rfl (pgs_cons (pg_name (i := 2) sc_Board_init.nd rfl (.inl rfl)) (pgs_cons (pg_name (i := 3) sc_Board_init.nd rfl (.inl rfl)) pgs_nil)))
        (pss_cons (ps_expr (pe_c (c_need_names T) hr (by first | decide | omega) (atW (takes_of (E := E) rfl rfl rfl rfl)) rfl (pa_cons (pe_lst (pa_cons (pv 2) pa_nil)) pa_nil)))
        (pss_one (ps_expr (pe_c (c_need_values T) hr (by first | decide | omega) (atW (takes_of (E := E) rfl rfl rfl rfl)) rfl (pa_cons (pv 3) pa_nil))))))
      (pss_cons (ps_expr (pe_c (c_need_once T) hr (by first | decide | omega) (atW (takes_of (E := E) rfl rfl rfl rfl)) rfl (pa_cons (pe_lc (own := [("name", 2), ("_", 4)]) rfl sc_Board_init.nd (oIt K (pv 1)) (blkOk_by (N := ["self", "cells", "name", "values", "_"]) (sc := defScope s_Board_init) (by decide +kernel)) (fun _ _ _ _ _ => (oTup K (n := 2) rfl (pgs_cons (pg_name (i := 2) sc_Board_init.nd rfl (.inl rfl)) (pgs_cons (pg_name (i := 4) sc_Board_init.nd rfl (.inl rfl)) pgs_nil)))) (fun _ _ _ _ _ => pts_nil) (fun _ _ _ _ _ => (pv 2))) pa_nil)))
      (pss_one (ps_fld (pv 0) (pe_callTy (oTuple K) (by rfl) T.n_tuple (by decide +kernel) (pa_cons (pe_lc (own := [("name", 2), ("values", 3)]) rfl sc_Board_init.nd (oIt K (pv 1)) (blkOk_by (N := ["self", "cells", "name", "values", "_"]) (sc := defScope s_Board_init) (by decide +kernel)) (fun _ _ _ _ _ => (oTup K (n := 2) rfl (pgs_cons (pg_name (i := 2) sc_Board_init.nd rfl (.inl rfl)) (pgs_cons (pg_name (i := 3) sc_Board_init.nd rfl (.inl rfl)) pgs_nil)))) (fun _ _ _ _ _ => pts_nil) (fun _ _ _ _ _ => (pe_tup (pa_cons (pv 2) (pa_cons (pe_callTy (oTuple K) (by rfl) T.n_tuple (by decide +kernel) (pa_cons (pv 3) pa_nil)) pa_nil))))) pa_nil)) rfl))))), ?_⟩
  walk_at "go"
  refine s_lenL hS ?_
  walk_at "go"
  rw [List.length_map, hA.1]
  refine ⟨_, _, _, _, rfl, fun h1 H1 s1 => ?_, fun h1 => ke (.count "cells" cs.length) (if_neg fun h => h1 ⟨by omega, by omega⟩)⟩
  have h1' : 1 ≤ cs.length ∧ cs.length ≤ 3 := ⟨by omega, by omega⟩
  walk_at "go"
  refine s_itL ?_
  walk_at "go"
  refine ⟨a, rfl, ⟨_, s1.seq hS⟩, for_all (still_list (s1.seq hS)) (fun i σ _ => (∃ u v, σ = [some (.ref x), some (.ref a), u, v, none]) ∧ ∀ j c, j < i → cs[j]? = some c → cellRf c = none) (fun _ _ _ _ _ q => q) ⟨⟨none, none, rfl⟩, fun j z h => absurd h (Nat.not_lt_zero j)⟩ (fun i y σ' H' hi hy s2 hp => ?_) fun σ' H' s2 hp => ?_⟩
  · obtain ⟨⟨u, v, rfl⟩, hp⟩ := hp
    obtain ⟨r, c, er, rfl, ec, l, hr1, hr2⟩ := hA.get hy
    have hcc := hc c (List.mem_of_getElem? ec)
    have bad : ∀ rf, cellRf c = some rf → Ra K E H rf := fun rf e => ke rf (by
      unfold boardRf; rw [if_pos h1', findSome_at hp ec e])
    have s02 := s1.trans s2
    refine s_gT (same_t s02 hr1) rfl ?_
    walk_at "go"
    refine ⟨by show 1 ≤ sizeLine; decide, fun p hp' => ?_⟩
    walk_at "go"
    have s3 := s02.trans (same_new (o := HO.lst [V.str c.1]) hp')
    refine ⟨p, [c.1], rfl, SqL.of upd_same, ⟨by show 1 ≤ 100000; decide, fun z hz => by rw [List.mem_singleton.mp hz]; exact hcc.1⟩, fun h2 H3 s4 => ?_, fun z h2 => ?_⟩
    · have nm : isNm c.1.cps.toList = true := by
        have := List.find?_eq_none.mp h2 c.1 (List.mem_singleton.mpr rfl)
        simpa using this
      have ev : cellRf c = valuesRf c.2 := if_pos nm
      walk_at "go"
      have s5 := s3.trans s4
      refine ⟨l, c.2, rfl, s5.seq hr2, hcc.2, fun h3 => (bad (.count "values" c.2.length) (by rw [ev]; exact if_neg h3)).mono s5, fun h3 => ⟨fun z h4 => (bad (.noName z) (by rw [ev]; unfold valuesRf; rw [if_pos h3, h4])).mono s5, fun h4 => ⟨fun z h5 => (bad (.twice z) (by rw [ev]; unfold valuesRf; rw [if_pos h3, h4]; simp only [h5, Option.map_some])).mono s5, fun h5 H4 s6 => ?_⟩⟩⟩
      have e0 : cellRf c = none := by rw [ev]; unfold valuesRf; rw [if_pos h3, h4]; simp only [h5, Option.map_none]
      refine ⟨s2.trans ((same_new hp').trans (s4.trans s6)), ⟨_, _, rfl⟩, fun j c' hj ej => ?_⟩
      by_cases hji : j = i
      · subst hji
        rw [ec] at ej; cases ej; exact e0
      · exact hp j c' (by omega) ej
    · have e : z = c.1 := by
        have := List.mem_of_find?_eq_some h2
        exact List.mem_singleton.mp this
      have nm : isNm c.1.cps.toList = false := by
        have := List.find?_some h2
        rw [e] at this; simpa using this
      subst e
      exact (bad (.noName c.1) (by unfold cellRf; rw [nm]; rfl)).mono s3
  · obtain ⟨⟨u, v, rfl⟩, hp⟩ := hp
    have no : cs.findSome? cellRf = none := findSome_no fun j c e => hp j c (by rw [List.length_map, hA.1]; exact (List.getElem?_eq_some_iff.mp e).1) e
    have s02 := s1.trans s2
    walk_at "go"
    refine s_itL ?_
    walk_at "go"
    refine ⟨a, rfl, ⟨_, s02.seq hS⟩, lc_all (still_list (s02.seq hS)) (fun _ i y _ => ∃ z, (cs.map (·.1))[i]? = some z ∧ y = .str z) (by rw [List.length_map, hA.1]; omega) (fun _ _ _ _ _ _ q => q) (fun D i y acc H3 _ _ hy s3 _ Q' k' => ?_) (fun D ys H3 _ s3 hy hyl hyr => ?_) (tg_mono (tgc_mono (tgc_mono tgn_mono)))⟩
    · obtain ⟨r, c, er, rfl, ec, l, hr1, hr2⟩ := hA.get hy
      refine s_gT (same_t (s02.trans s3) hr1) rfl ?_
      walk_at "go"
      refine ⟨rfl, ?_⟩
      walk_at "go"
      exact k' _ _ (Same.refl _) ⟨c.1, by rw [List.getElem?_map, ec]; rfl, rfl⟩
    · walk_at "go"
      have ey : ys = (cs.map (·.1)).map V.str := ge_map (by rw [hyl, List.length_map, List.length_map, hA.1]) hyr
      rw [ey] at hy
      have s03 := s02.trans s3
      refine ⟨D, cs.map (·.1), rfl, SqL.of hy, by rw [List.length_map]; exact hl, fun h4 H4 s4 => ?_, fun z h4 => (ke (.twice z) (by unfold boardRf; rw [if_pos h1', no]; simp only [h4, Option.map_some])).mono s03⟩
      have no2 : boardRf cs = none := by unfold boardRf; rw [if_pos h1', no]; simp only [h4, Option.map_none]
      have s04 := s03.trans s4
      walk_at "go"
      refine s_itL ?_
      walk_at "go"
      refine ⟨a, rfl, ⟨_, s04.seq hS⟩, lc_all (still_list (s04.seq hS)) (fun D i y H' => ∃ q c, y = .ref q ∧ cs[i]? = some c ∧ q ≠ D ∧ ∃ l, l ≠ D ∧ H' q = some (.tup [.str c.1, .ref l]) ∧ H' l = some (.tup (c.2.map V.str))) (by rw [List.length_map, hA.1]; omega) (fun D i y H1 H2 m q => ?_) (fun D i y acc H5 hD _ hy s5 hacc Q' k' => ?_) (fun D ys H5 _ s5 hy hyl hyr => ?_) (tg_mono (tgc_mono (tgc_mono tgn_mono)))⟩
      · obtain ⟨q, c, e1, e2, e3, l, e4, e5, e6⟩ := q
        exact ⟨q, c, e1, e2, e3, l, e4, m _ _ e3 e5, m _ _ e4 e6⟩
      · obtain ⟨r, c, er, rfl, ec, l, hr1, hr2⟩ := hA.get hy
        refine s_gT (same_t (s04.trans s5) hr1) rfl ?_
        walk_at "go"
        refine ⟨rfl, ?_⟩
        walk_at "go"
        refine s_tupL ((s04.trans s5).seq hr2) fun l' hl' => ?_
        walk_at "go"
        refine ⟨by show 2 ≤ sizeLine; decide, fun q hq => ?_⟩
        have n1 : D ≠ l' := ne_of_none hacc hl'
        have n2 : D ≠ q := ne_of_none (up hl' hacc) hq
        exact k' _ _ ((same_new hl').trans (same_new hq)) ⟨q, c, rfl, ec, n2.symm, l', n1.symm, upd_same, up hq upd_same⟩
      · walk_at "go"
        have s05 := s04.trans s5
        obtain ⟨as', ey, hA'⟩ := allAt_of (R := PairT K) (H := H5) (xs := cs) (by rw [hyl, List.length_map, hA.1]) fun i y e => by
          obtain ⟨q, c, e1, e2, e3, l, e4, e5, e6⟩ := hyr i y e
          exact ⟨q, c, e1, e2, l, .inl (.inl e5), .inl (.inl e6)⟩
        rw [ey] at hy
        refine s_tupL (SqL.of hy) fun t ht => ?_
        walk_at "go"
        have s06 := s05.trans (same_new (o := HO.tup (as'.map V.ref)) ht)
        have hx6 := s06 _ _ hx
        refine ⟨x, _, dx, [], rfl, hx6, T.cl_Board, T.na_Board__cells, by decide, ?_⟩
        refine k no2 _ ⟨dx, t, as', upd_same, sqT_ne (.inl (.inl upd_same)) hx6 _, hA'.mono fun b c ⟨l, q1, q2⟩ => ⟨l, ?_, ?_⟩⟩ fun b o e hb => ?_
        · exact sqT_ne (same_t (same_new ht) q1) hx6 _
        · exact sqT_ne (same_t (same_new ht) q2) hx6 _
        · rw [upd_ne hb]; exact s06 _ _ e
end
section
variable {P : Program} {w : World} {K : PySem.W.Frag} {mg : Str → Option Value} {base : Heap}
theorem BoardAt.mono {x : Addr} {cs : List Ce} {H H' : Hp} (s : Same H H') : BoardAt K x cs H → BoardAt K x cs H' := fun ⟨dx, t, as, h1, h2, h3⟩ => ⟨dx, t, as, s _ _ h1, same_t s h2, h3.mono fun _ _ => PairT.mono s⟩
theorem lk1 {f : Str} {v : V} : [(f, v)].lookup f = some v := by simp [List.lookup]
def sp_Board_cells (K : PySem.W.Frag) : Sp := fun vs H Q _ => ∃ (x : Addr) (cs : List Ce), vs = [.ref x] ∧ BoardAt K x cs H ∧ cs.length ≤ 100000 ∧ ∀ l H', H l = none → Same H H' → H' l = some (.lst ((cs.map (·.1)).map V.str)) → Q (.ref l) H'
theorem c_Board_cells (T : Txt K mg) : Met P w K mg base CX0 1 (He.ga K "Board") "cells" (sp_Board_cells K) := by
  obtain ⟨fd, F⟩ := T.d_Board_cells
  refine ⟨_, fd, _, T.cl_Board, T.mt_Board_cells, F.ok (k := 0) sc_Board_cells (fun vs H Q E h => by obtain ⟨_, _, rfl, _⟩ := h; rfl) (fun cdv A outer s H vs Q E hr h => ?_), F.bindsN fun _ _ _ _ _ _ us hl => match us, hl with | [_], _ => rfl⟩
  obtain ⟨x, cs, rfl, ⟨dx, t, as, hx, ht, hA⟩, hl, k⟩ := h
  refine ⟨_, PSs.nox (pss_one (ps_ret (pe_lc (own := [("name", 1), ("_", 2)]) rfl sc_Board_cells.nd (oIt K (oFld K (pv 0))) (blkOk_by (N := ["self", "name", "_"]) (sc := defScope s_Board_cells) (by decide +kernel)) (fun _ _ _ _ _ => (oTup K (n := 2) rfl (pgs_cons (pg_name (i := 1) sc_Board_cells.nd rfl (.inl rfl)) (pgs_cons (pg_name (i := 2) sc_Board_cells.nd rfl (.inl rfl)) pgs_nil)))) (fun _ _ _ _ _ => pts_nil) (fun _ _ _ _ _ => (pv 1))))), ?_⟩
  walk_at "go"
  refine s_itT ?_
  walk_at "go"
  refine ⟨x, _, dx, _, _, rfl, hx, T.cl_Board, T.na_Board__cells, lk1, t, rfl, ⟨_, ht⟩, lc_all (still_tup ht) (fun _ i y _ => ∃ z, (cs.map (·.1))[i]? = some z ∧ y = .str z) (by rw [List.length_map, hA.1]; omega) (fun _ _ _ _ _ _ q => q) (fun D i y acc H3 _ _ hy s3 _ Q' k' => ?_) (fun D ys H3 hD s3 hy hyl hyr => ?_) (tg_mono (tgc_mono (tgc_mono tgn_mono)))⟩
  · obtain ⟨r, c, er, rfl, ec, l, hr1, hr2⟩ := hA.get hy
    refine s_gT (same_t s3 hr1) rfl ?_
    walk_at "go"
    refine ⟨rfl, ?_⟩
    walk_at "go"
    exact k' _ _ (Same.refl _) ⟨c.1, by rw [List.getElem?_map, ec]; rfl, rfl⟩
  · have ey : ys = (cs.map (·.1)).map V.str := ge_map (by rw [hyl, List.length_map, List.length_map, hA.1]) hyr
    rw [ey] at hy
    exact k D H3 hD s3 hy
def cellOf (cs : List Ce) (n : Str) : Option Ce := cs.find? fun c => decide (c.1 = n)
def sp_Board_values_of (K : PySem.W.Frag) : Sp := fun vs H Q E => ∃ (x : Addr) (cs : List Ce) (n : Str), vs = [.ref x, .str n] ∧ BoardAt K x cs H ∧ cs.length ≤ 100000 ∧
  (cellOf cs n = none → Err1 (He.ga K "NoCell") "name" (.str n) E H) ∧ ∀ c, cellOf cs n = some c → ∀ l H', H l = none → Same H H' → H' l = some (.lst (c.2.map V.str)) → Q (.ref l) H'
theorem c_Board_values_of (T : Txt K mg) : Met P w K mg base (L2.CX P w) 3 (He.ga K "Board") "values_of" (sp_Board_values_of K) := by
  obtain ⟨fd, F⟩ := T.d_Board_values_of
  refine ⟨_, fd, _, T.cl_Board, T.mt_Board_values_of, F.ok (k := 2) sc_Board_values_of (fun vs H Q E h => by obtain ⟨_, _, _, rfl, _⟩ := h; rfl) (fun cdv A outer s H vs Q E hr h => ?_), F.bindsN fun _ _ _ _ _ _ us hl => match us, hl with | [_, _], _ => rfl⟩
  obtain ⟨x, cs, n, rfl, ⟨dx, t, as, hx, ht, hA⟩, hl, ke, k⟩ := h
  refine ⟨_, (pss_cons (ps_for (passes_of rfl) rfl (oIt K (oFld K (pv 0))) (oTup K (n := 2) rfl (pgs_cons (pg_name (i := 2) sc_Board_values_of.nd rfl (.inl rfl)) (pgs_cons (pg_name (i := 3) sc_Board_values_of.nd rfl (.inl rfl)) pgs_nil)))
        (pss_one (ps_if (pt_cmpR (oEq K hr.units) (pv 2) (pv 1) (nomark _))
          (pss_one (ps_ret (pe_callTy (oList K) (by rfl) T.n_list (by decide +kernel) (pa_cons (pv 3) pa_nil))))
          pss_nil)))
      (pss_one (ps_raise rfl (takes_of (E := E) rfl rfl rfl rfl) (pmk_A (x_NoCell T) hr (by first | decide | omega) rfl (pa_cons (pv 1) pa_nil))))), ?_⟩
  walk_at "go"
  refine s_itT ?_
  walk_at "go"
  refine ⟨x, _, dx, _, _, rfl, hx, T.cl_Board, T.na_Board__cells, lk1, t, rfl, ⟨_, ht⟩, for_all (still_tup ht) (fun i σ _ => (∃ u v, σ = [some (.ref x), some (.str n), u, v]) ∧ ∀ j c, j < i → cs[j]? = some c → decide (c.1 = n) = false) (fun _ _ _ _ _ q => q) ⟨⟨none, none, rfl⟩, fun j z h => absurd h (Nat.not_lt_zero j)⟩ (fun i y σ' H' hi hy s1 hp => ?_) fun σ' H' s1 hp => ?_⟩
  · obtain ⟨⟨u, v, rfl⟩, hp⟩ := hp
    obtain ⟨r, c, er, rfl, ec, l, hr1, hr2⟩ := hA.get hy
    refine s_gT (same_t s1 hr1) rfl ?_
    walk_at "go"
    refine s_eq rfl ?_
    walk_at "go"
    refine iteD (fun h1 => ?_) fun h1 => ?_
    · walk_at "go"
      refine s_lstT (same_t s1 hr2) fun p hp' => ?_
      exact k c (find_at hp ec (decide_eq_true (V.str.inj h1))) p _ (s1.free hp') (s1.trans (same_new hp')) upd_same
    · walk_at "go"
      refine ⟨s1, ⟨_, _, rfl⟩, fun j c' hj ej => ?_⟩
      by_cases hji : j = i
      · subst hji
        rw [ec] at ej; cases ej
        exact decide_eq_false fun e => h1 (congrArg V.str e)
      · exact hp j c' (by omega) ej
  · obtain ⟨⟨u, v, rfl⟩, hp⟩ := hp
    walk_at "go"
    refine err1_in ((ke ?_).mono s1)
    refine List.find?_eq_none.mpr fun c hc => ?_
    obtain ⟨j, hj, e⟩ := List.mem_iff_getElem.mp hc
    rw [hp j c (by rw [List.length_map, hA.1]; exact hj) (by rw [List.getElem?_eq_getElem hj, e])]
    decide
end

section
variable {P : Program} {w : World} {K : PySem.W.Frag} {mg : Str → Option Value} {base : Heap}
/-- the law's own source of digits: three numbers in a list -/
def Sd (a b c : Int) : Prop := 0 ≤ a ∧ 7 ≤ b ∧ b < 2147483640 ∧ 0 ≤ c ∧ c < 2147483640
def SdAt (s : Addr) (H : Hp) : Prop := ∃ a b c, H s = some (.lst [.int a, .int b, .int c]) ∧ Sd a b c
theorem SdAt.mono {s : Addr} {H H' : Hp} (e : Same H H') : SdAt s H → SdAt s H' := fun ⟨a, b, c, h, k⟩ => ⟨a, b, c, e _ _ h, k⟩
theorem SdAt.ne {s p : Addr} {H : Hp} (h : SdAt s H) (hp : H p = none) : s ≠ p := by
  obtain ⟨a, b, c, e, _⟩ := h
  exact ne_of_none e hp
def sp_l_state : Sp := fun vs H Q _ => ∃ n : Int, vs = [.int n] ∧ ∀ s H', H s = none → Same H H' → SdAt s H' → Q (.ref s) H'
theorem c_l_state (T : Txt K mg) : Cal P w K mg base CX0 1 "_law_state" sp_l_state := by
  obtain ⟨fd, F⟩ := T.d_l_state
  refine ⟨_, fd, _, F.ok (k := 0) sc_l_state (fun vs H Q E h => by obtain ⟨_, rfl, _⟩ := h; rfl) (fun cdv A outer s H vs Q E hr h => ?_), T.g_l_state, F.kp, F.bindsN fun _ _ _ _ _ _ us hl => match us, hl with | [_], _ => rfl⟩
  obtain ⟨n, rfl, k⟩ := h
  refine ⟨_, PSs.nox (pss_cons (ps_set (i := 0) sc_l_state.nd rfl (.inl rfl) (pe_callB call_abs (by rfl) T.n_abs (by decide +kernel) (pa_cons (pv 0) pa_nil)))
      (pss_one (ps_ret (pe_lst (pa_cons (pe_op op_mul (pv 0) (pe_callTy call_int1 (by rfl) T.n_int (by decide +kernel) (pa_cons (pe_cmpR op_ge (pv 0) (pe_op op_pow pe_int pe_int) (nomark _)) pa_nil))) (pa_cons (pe_op (oAdd K) (pe_op op_mod (pv 0) pe_int) pe_int) (pa_cons (pe_op op_mod (pv 0) pe_int) pa_nil))))))), ?_⟩
  walk_at "go"
  refine ⟨_, rfl, ?_⟩
  walk_at "go"
  refine s_I ⟨by decide, by decide, by decide⟩ ?_
  walk_at "go"
  refine Or.inr ⟨_, rfl, ?_⟩
  have hm : 0 ≤ (if n < 0 then -n else n) := by split <;> omega
  generalize (if n < 0 then -n else n) = m at hm
  refine s_I (.inr (by split <;> decide)) ?_
  walk_at "go"
  refine s_I (by decide) ?_
  walk_at "go"
  refine s_I (by decide) ?_
  walk_at "go"
  refine ⟨by show 3 ≤ sizeLine; decide, fun p hp => k p _ hp (same_new hp) ⟨_, _, _, upd_same, ?_, ?_, ?_, ?_, ?_⟩⟩
  · split
    · omega
    · omega
  · have := Int.emod_nonneg m (show (2147483629 : Int) ≠ 0 by decide); omega
  · have := Int.emod_lt_of_pos m (show (0 : Int) < 2147483629 by decide); omega
  · exact Int.emod_nonneg m (show (2147483587 : Int) ≠ 0 by decide)
  · have := Int.emod_lt_of_pos m (show (0 : Int) < 2147483587 by decide); omega
def sp_l_digit : Sp := fun vs H Q _ => ∃ (s : Addr) (n : Int), vs = [.ref s, .int n] ∧ SdAt s H ∧ 0 < n ∧ n ≤ 1000 ∧ ∀ r H', 0 ≤ r → r < n → SdAt s H' → But s H H' → Q (.int r) H'
theorem ix3_0 {a b c : V} : atI [a, b, c] 0 = some a := atI_nat (j := 0) rfl
theorem ix3_1 {a b c : V} : atI [a, b, c] 1 = some b := atI_nat (j := 1) rfl
theorem ix3_2 {a b c : V} : atI [a, b, c] 2 = some c := atI_nat (j := 2) rfl
theorem c_l_digit (T : Txt K mg) : Cal P w K mg base CX0 1 "_law_digit" sp_l_digit := by
  obtain ⟨fd, F⟩ := T.d_l_digit
  refine ⟨_, fd, _, F.ok (k := 0) sc_l_digit (fun vs H Q E h => by obtain ⟨_, _, rfl, _⟩ := h; rfl) (fun cdv A outer s H vs Q E hr h => ?_), T.g_l_digit, F.kp, F.bindsN fun _ _ _ _ _ _ us hl => match us, hl with | [_, _], _ => rfl⟩
  obtain ⟨s', n, rfl, ⟨a, b, c, hs, ha, hb1, hb2, hc1, hc2⟩, hn, hn2, k⟩ := h
  refine ⟨_, PSs.nox (pss_cons (ps_if (pt_cmpR op_gt (pe_ix (oIx K) (pv 0) pe_int (fun _ _ => rfl)) pe_int (nomark _))
        (pss_cons (ps_set (i := 2) sc_l_digit.nd rfl (.inl rfl) (pe_op op_mod (pe_ix (oIx K) (pv 0) pe_int (fun _ _ => rfl)) (pv 1)))
        (pss_cons (ps_asg (pe_op op_fdiv (pe_ix (oIx K) (pv 0) pe_int (fun _ _ => rfl)) (pv 1)) (pg_sub (pv 0) pe_int set_list))
        (pss_one (ps_ret (pv 2)))))
        pss_nil)
      (pss_cons (ps_set (i := 3) sc_l_digit.nd rfl (.inl rfl) (pe_op op_mul (pe_ix (oIx K) (pv 0) pe_int (fun _ _ => rfl)) (pe_op (oAdd K) (pe_op op_fdiv (pe_ix (oIx K) (pv 0) pe_int (fun _ _ => rfl)) pe_int) pe_int)))
      (pss_cons (ps_asg (pe_op (oAdd K) (pe_op op_mod (pe_op (oAdd K) (pv 3) (pe_ix (oIx K) (pv 0) pe_int (fun _ _ => rfl))) pe_int) pe_int) (pg_sub (pv 0) pe_int set_list))
      (pss_one (ps_ret (pe_op op_mod (pe_op op_fdiv (pe_ix (oIx K) (pv 0) pe_int (fun _ _ => rfl)) pe_int) (pv 1))))))), ?_⟩
  walk_at "go"
  refine s_ixL (SqL.of hs) ix3_0 ?_
  walk_at "go"
  refine iteD (fun h1 => ?_) fun h1 => ?_
  · walk_at "go"
    refine s_ixL (SqL.of hs) ix3_0 ?_
    walk_at "go"
    refine s_I hn ?_
    walk_at "go"
    refine s_ixL (SqL.of hs) ix3_0 ?_
    walk_at "go"
    refine s_I ⟨hn, by omega⟩ ?_
    walk_at "go"
    refine s_setL (j := 0) hs (by show 0 < 3; decide) ?_
    walk_at "go"
    refine k _ _ (Int.emod_nonneg a (by omega)) (Int.emod_lt_of_pos a hn) ⟨a / n, b, c, upd_same, Int.ediv_nonneg ha (by omega), hb1, hb2, hc1, hc2⟩ But.upd
  · walk_at "go"
    refine s_ixL (SqL.of hs) ix3_1 ?_
    walk_at "go"
    refine s_ixL (SqL.of hs) ix3_1 ?_
    walk_at "go"
    refine s_I ⟨by decide, by decide⟩ ?_
    walk_at "go"
    refine s_I (.inl ⟨by omega, by omega⟩) ?_
    walk_at "go"
    refine s_ixL (SqL.of hs) ix3_2 ?_
    walk_at "go"
    refine s_I (by decide) ?_
    walk_at "go"
    refine s_setL (j := 1) hs (by show 1 < 3; decide) ?_
    walk_at "go"
    refine s_ixL (SqL.of upd_same) ix3_1 ?_
    walk_at "go"
    refine s_I ⟨by decide, by decide⟩ ?_
    walk_at "go"
    refine s_I hn ?_
    have m1 := Int.emod_nonneg (b * (b / 1009 + 69621) + c) (show (2147483629 : Int) ≠ 0 by decide)
    have m2 := Int.emod_lt_of_pos (b * (b / 1009 + 69621) + c) (show (0 : Int) < 2147483629 by decide)
    exact k _ _ (Int.emod_nonneg _ (by omega)) (Int.emod_lt_of_pos _ hn) ⟨a, _, c, upd_same, ha, by omega, by omega, hc1, hc2⟩ But.upd
/-- signs that are signs -/
def Ok (z : Str) : Prop := ∀ c ∈ z.cps.toList, c < 0x110000
theorem Ok.to {z : Str} (h : Ok z) : PyData.strOk z = true := by
  show z.cps.all _ = true
  rw [← Array.all_toList]
  exact List.all_eq_true.mpr fun c hc => decide_eq_true (h c hc)
theorem ok_const {z : Str} (h : z.cps.toList.all (fun c => decide (c < 0x110000)) = true) : Ok z := fun c hc => of_decide_eq_true (List.all_eq_true.mp h c hc)
theorem ok_app {x y : Str} (hx : Ok x) (hy : Ok y) : Ok (x ++ y) := fun c hc => by
  have : (x ++ y).cps.toList = x.cps.toList ++ y.cps.toList := by
    show (x.cps ++ y.cps).toList = _
    exact Array.toList_append
  rw [this] at hc
  rcases List.mem_append.mp hc with h | h
  · exact hx c h
  · exact hy c h
theorem ok_one {z : Str} {i : Int} {c : Nat} (hz : Ok z) (h : atI z.cps.toList i = some c) : Ok ⟨#[c]⟩ := fun d hd => by
  have : d = c := by simpa using hd
  subst this
  obtain ⟨j, _, e, _⟩ := atI_get h
  exact hz d (List.mem_of_getElem? e)
theorem ok_slice {z : Str} (hz : Ok z) (lo hi : Option Int) : Ok (PySem.Txt.slice z lo hi) := fun c hc => by
  rw [← C8.cutS_slice] at hc
  exact hz c (List.mem_of_mem_drop (List.mem_of_mem_take (by simpa [cutS] using hc)))
theorem ok36 : Ok "abcdefghijklmnopqrstuvwxyz0123456789" := ok_const (by decide +kernel)
def DIGS : Str := "0123456789"
theorem lfs_eq : LFS.cps.toList = LETS.cps.toList ++ DIGS.cps.toList := by decide +kernel
end

section
variable {P : Program} {w : World} {K : PySem.W.Frag} {mg : Str → Option Value} {base : Heap}
theorem len36 : ("abcdefghijklmnopqrstuvwxyz0123456789" : Str).cps.toList.length = 36 := by decide +kernel
theorem ln36 : ("abcdefghijklmnopqrstuvwxyz0123456789" : Str).length ≤ sizeLine := by decide +kernel
theorem str_len_app (x y : Str) : (x ++ y).length = x.length + y.length := by
  show (x ++ y).cps.size = x.cps.size + y.cps.size
  exact Array.size_append
theorem str_app_list (x y : Str) : (x ++ y).cps.toList = x.cps.toList ++ y.cps.toList := by
  show (x.cps ++ y.cps).toList = _
  exact Array.toList_append
/-- a number's text -/
def nT (n : Nat) : Str := Str.ofString (toString (n : Int))
theorem nT_ok : ∀ n, n < 60 → (nT n).cps.toList.all (fun c => decide (c ∈ LFS.cps.toList)) = true ∧ 1 ≤ (nT n).length ∧ (nT n).length ≤ 2 := by decide +kernel
theorem nT_inj : ∀ i, i < 60 → ∀ j, j < 60 → (nT i).cps.toList = (nT j).cps.toList → i = j := by decide +kernel
/-- a name as the law makes them: at most so many signs -/
def Nm (k : Nat) (z : Str) : Prop := 1 ≤ z.length ∧ z.length ≤ k ∧ (∃ c r, z.cps.toList = c :: r ∧ c ∈ LETS.cps.toList) ∧ ∀ c ∈ z.cps.toList, c ∈ LFS.cps.toList
theorem Nm.is {k : Nat} {z : Str} (h : Nm k z) (hk : k ≤ 10) : isNm z.cps.toList = true := by
  obtain ⟨h1, h2, ⟨c, r, e, hc⟩, ha⟩ := h
  have zl : z.length = z.cps.toList.length := rfl
  rw [zl, e] at h1 h2
  rw [e] at ha
  rw [e, isNm_all h1 (by omega) hc]
  exact List.all_eq_true.mpr fun c hc => decide_eq_true (ha c hc)
theorem Nm.mono {k l : Nat} {z : Str} (h : Nm k z) (hk : k ≤ l) : Nm l z := ⟨h.1, Nat.le_trans h.2.1 hk, h.2.2⟩
theorem Nm.app {k l : Nat} {x y : Str} (h : Nm k x) (hy : ∀ c ∈ y.cps.toList, c ∈ LFS.cps.toList) (hl : y.length ≤ l) : Nm (k + l) (x ++ y) := by
  obtain ⟨h1, h2, ⟨c, r, e, hc⟩, ha⟩ := h
  refine ⟨by rw [str_len_app]; omega, by rw [str_len_app]; omega, ⟨c, r ++ y.cps.toList, by rw [str_app_list, e]; rfl, hc⟩, fun d hd => ?_⟩
  rw [str_app_list] at hd
  rcases List.mem_append.mp hd with h | h
  · exact ha d h
  · exact hy d h
/-- the i-th text that is tried -/
def nTry (z : Str) (i : Nat) : Str := if i = 0 then z else z ++ nT i
theorem nTry_inj {z : Str} {i j : Nat} (hi : i < 60) (hj : j < 60) (h : nTry z i = nTry z j) : i = j := by
  have e : (nTry z i).cps.toList = (nTry z j).cps.toList := by rw [h]
  have len : ∀ i, 0 < i → i < 60 → 1 ≤ (nT i).cps.toList.length := fun i _ h => (nT_ok i h).2.1
  unfold nTry at e
  split at e <;> split at e
  · omega
  · rw [str_app_list] at e
    have := congrArg List.length e
    rw [List.length_append] at this
    have := len j (by omega) hj
    omega
  · rw [str_app_list] at e
    have := congrArg List.length e
    rw [List.length_append] at this
    have := len i (by omega) hi
    omega
  · rw [str_app_list, str_app_list] at e
    exact nT_inj i hi j hj (List.append_cancel_left e)
theorem sub_len : ∀ (l m : List Str), l.Nodup → (∀ x ∈ l, x ∈ m) → l.length ≤ m.length
  | [], _, _, _ => Nat.zero_le _
  | x :: l, m, hn, hs => by
    obtain ⟨h1, h2⟩ := List.nodup_cons.mp hn
    have hx := hs x (List.mem_cons_self ..)
    have := sub_len l (m.erase x) h2 fun y hy => by
      have hy' := hs y (List.mem_cons_of_mem _ hy)
      exact (List.mem_erase_of_ne (fun (e : y = x) => h1 (by rw [← e]; exact hy))).mpr hy'
    rw [List.length_erase_of_mem hx] at this
    have : 0 < m.length := List.length_pos_of_mem hx
    show l.length + 1 ≤ m.length
    omega
theorem tries_few {z : Str} {m : List Str} {n : Nat} (hn : n < 60) (h : ∀ i, i < n → nTry z i ∈ m) : n ≤ m.length := by
  have := sub_len ((List.range n).map (nTry z)) m ?_ ?_
  · simpa using this
  · refine List.nodup_iff_pairwise_ne.mpr (List.pairwise_map.mpr ?_)
    refine List.Pairwise.imp_of_mem (fun ha hb hab e => ?_) (List.nodup_iff_pairwise_ne.mp List.nodup_range)
    exact hab (nTry_inj (Nat.lt_trans (List.mem_range.mp ha) hn) (Nat.lt_trans (List.mem_range.mp hb) hn) e)
  · intro x hx
    obtain ⟨i, hi, rfl⟩ := List.mem_map.mp hx
    exact h i (List.mem_range.mp hi)
theorem nTry_nm {k : Nat} {z : Str} (h : Nm k z) {i : Nat} (hi : i < 60) : Nm (k + 2) (nTry z i) := by
  unfold nTry
  split
  · exact h.mono (by omega)
  · obtain ⟨h1, _, h3⟩ := nT_ok i hi
    exact h.app (fun c hc => of_decide_eq_true (List.all_eq_true.mp h1 c hc)) h3
def words : List V := [V.str "write", V.str "wait", V.str "else", V.str "or", V.str "lead", V.str "with", V.str "holds", V.str "any", V.str "skip", V.str "mark"]
theorem words_all : words.all (fun v => match v with | .str z => decide (1 ≤ z.length) && (decide (z.length ≤ 5) && ((match z.cps.toList with | c :: _ => decide (c ∈ LETS.cps.toList) | [] => false) && z.cps.toList.all (fun c => decide (c ∈ LFS.cps.toList)))) | _ => false) = true := by decide +kernel
theorem words_nm {i : Int} {v : V} (h : atI words i = some v) : ∃ z, v = .str z ∧ Nm 5 z := by
  obtain ⟨j, _, e, _⟩ := atI_get h
  have e := List.all_eq_true.mp words_all v (List.mem_of_getElem? e)
  cases v with
  | str z =>
    obtain ⟨e1, e2⟩ := bA e
    obtain ⟨e2, e3⟩ := bA e2
    obtain ⟨e3, e4⟩ := bA e3
    refine ⟨z, rfl, of_decide_eq_true e1, of_decide_eq_true e2, ?_, fun c hc => of_decide_eq_true (List.all_eq_true.mp e4 c hc)⟩
    match q : z.cps.toList, e3 with
    | c :: r, e3 => exact ⟨c, r, rfl, of_decide_eq_true e3⟩
  | _ => cases e
theorem let26 : ∀ i, i < 26 → ∀ c, ("abcdefghijklmnopqrstuvwxyz0123456789" : Str).cps.toList[i]? = some c → c ∈ LETS.cps.toList := by
  intro i hi c e
  have h : ∀ j, j < 26 → ∃ d, LFS.cps.toList[j]? = some d ∧ d ∈ LETS.cps.toList := by
    have : (List.range 26).all (fun j => match LFS.cps.toList[j]? with | some d => decide (d ∈ LETS.cps.toList) | none => false) = true := by decide +kernel
    intro j hj
    have := List.all_eq_true.mp this j (List.mem_range.mpr hj)
    split at this
    · exact ⟨_, by assumption, of_decide_eq_true this⟩
    · cases this
  obtain ⟨d, e1, e2⟩ := h i hi
  rw [show LFS.cps.toList[i]? = some c from e] at e1
  cases e1; exact e2
theorem one_nm {c : Nat} (h : c ∈ LETS.cps.toList) : Nm 1 ⟨#[c]⟩ := ⟨Nat.le_refl _, Nat.le_refl _, ⟨c, [], rfl, h⟩, fun d hd => by
  have : d = c := by simpa using hd
  subst this
  rw [lfs_eq]; exact List.mem_append_left _ h⟩
theorem in_mono {i j : Nat} (σ : L2.St) (H : Hp) (Q Q' : Bool → Hp → Prop) (m : ∀ b H1, Q b H1 → Q' b H1) : tB (tOp (rInA K) (tVar i) (tVar j)) σ H Q → tB (tOp (rInA K) (tVar i) (tVar j)) σ H Q' := by
  rintro ⟨v, e, u, e2, h⟩
  refine ⟨v, e, u, e2, ?_⟩
  rcases h with ⟨c, z, h1, h2, b, h3, h4⟩ | ⟨a, xs, h1, h2, h3, h4, b, h5, h6⟩
  · exact .inl ⟨c, z, h1, h2, b, h3, m _ _ h4⟩
  · exact .inr ⟨a, xs, h1, h2, h3, h4, b, h5, m _ _ h6⟩
def sp_l_name (K : PySem.W.Frag) : Sp := fun vs H Q _ => ∃ (s t : Addr) (zs : List Str), vs = [.ref s, .ref t] ∧ SdAt s H ∧ H t = some (.lst (zs.map V.str)) ∧ zs.length ≤ 50 ∧ ∀ z H', Nm 7 z → z ∉ zs → SdAt s H' → But s H H' → Q (.str z) H'
theorem sd_ne {s t : Addr} {H : Hp} {zs : List Str} (h : SdAt s H) (ht : H t = some (.lst (zs.map V.str))) : t ≠ s := by
  intro e
  obtain ⟨a, b, c, h, _⟩ := h
  rw [e, h] at ht
  match zs, ht with
  | [], ht => cases ht
  | z :: r, ht => cases ht
def muN (σ : L2.St) : Nat := match σ[7]? with
  | some (some (V.int n)) => 60 - n.toNat
  | _ => 0
theorem c_l_name (T : Txt K mg) : Cal P w K mg base CX0 2 "_law_name" (sp_l_name K) := by
  obtain ⟨fd, F⟩ := T.d_l_name
  refine ⟨_, fd, _, F.ok (k := 1) sc_l_name (fun vs H Q E h => by obtain ⟨_, _, _, rfl, _⟩ := h; rfl) (fun cdv A outer s H vs Q E hr h => ?_), T.g_l_name, F.kp, F.bindsN fun _ _ _ _ _ _ us hl => match us, hl with | [_, _], _ => rfl⟩
  obtain ⟨s', t, zs, rfl, hs, ht, hl, k⟩ := h
  have hts := sd_ne hs ht
  refine ⟨_, PSs.nox (pss_cons (ps_set (i := 2) sc_l_name.nd rfl (.inl rfl) pe_str)
      (pss_cons (ps_set (i := 3) sc_l_name.nd rfl (.inl rfl) (pe_c (c_l_digit T) hr (by first | decide | omega) at0 rfl (pa_cons (pv 0) (pa_cons pe_int pa_nil))))
      (pss_cons (ps_set (i := 4) sc_l_name.nd rfl (.inl rfl) (pe_ix (oIx K) (pv 2) (pe_c (c_l_digit T) hr (by first | decide | omega) at0 rfl (pa_cons (pv 0) (pa_cons pe_int pa_nil))) (fun _ _ => rfl)))
      (pss_cons (ps_for PassesOwn.never rfl (pi_range1 rfl T.n_range (pa_cons (pe_c (c_l_digit T) hr (by first | decide | omega) at0 rfl (pa_cons (pv 0) (pa_cons pe_int pa_nil))) pa_nil)) (pg_name (i := 5) sc_l_name.nd rfl (.inl rfl))
        (pss_one (ps_set (i := 4) sc_l_name.nd rfl (.inl rfl) (pe_op (oAdd K) (pv 4) (pe_ix (oIx K) (pv 2) (pe_c (c_l_digit T) hr (by first | decide | omega) at0 rfl (pa_cons (pv 0) (pa_cons pe_int pa_nil))) (fun _ _ => rfl))))))
      (pss_cons (ps_if (pt_cmpR (oEq K hr.units) (pv 3) pe_int (nomark _))
        (pss_one (ps_set (i := 4) sc_l_name.nd rfl (.inl rfl) (pe_ix (oIx K) (pe_lst (pa_cons pe_str (pa_cons pe_str (pa_cons pe_str (pa_cons pe_str (pa_cons pe_str (pa_cons pe_str (pa_cons pe_str (pa_cons pe_str (pa_cons pe_str (pa_cons pe_str pa_nil))))))))))) (pe_c (c_l_digit T) hr (by first | decide | omega) at0 rfl (pa_cons (pv 0) (pa_cons pe_int pa_nil))) (fun _ _ => rfl))))
        pss_nil)
      (pss_cons (ps_set (i := 6) sc_l_name.nd rfl (.inl rfl) (pv 4))
      (pss_cons (ps_set (i := 7) sc_l_name.nd rfl (.inl rfl) pe_int)
      (pss_cons (ps_while PassesOwn.never (pt_cmpR (oIn K) (pv 6) (pv 1) (by rfl))
        (pss_cons (ps_set (i := 7) sc_l_name.nd rfl (.inl rfl) (pe_op (oAdd K) (pv 7) pe_int))
        (pss_one (ps_set (i := 6) sc_l_name.nd rfl (.inl rfl) (pe_op (oAdd K) (pv 4) (pe_callTy call_str_int (by rfl) T.n_str (by decide +kernel) (pa_cons (pv 7) pa_nil)))))))
      (pss_one (ps_ret (pv 6))))))))))), ?_⟩
  walk_at "go"
  refine ⟨s', 7, rfl, hs, by decide, by decide, fun r1 H1 r1a r1b hs1 b1 => ?_⟩
  walk_at "go"
  refine ⟨s', 26, rfl, hs1, by decide, by decide, fun r2 H2 r2a r2b hs2 b2 => ?_⟩
  obtain ⟨j2, rfl⟩ : ∃ j : Nat, r2 = (j : Int) := ⟨r2.toNat, by omega⟩
  have hj2 : j2 < ("abcdefghijklmnopqrstuvwxyz0123456789" : Str).cps.toList.length := by rw [len36]; omega
  refine s_ixS ln36 (atI_nat (List.getElem?_eq_getElem hj2)) ?_
  have hc := let26 j2 (by omega) _ (List.getElem?_eq_getElem hj2)
  generalize ("abcdefghijklmnopqrstuvwxyz0123456789" : Str).cps.toList[j2] = c at hc
  walk_at "go"
  refine ⟨s', 4, rfl, hs2, by decide, by decide, fun r3 H3 r3a r3b hs3 b3 => ?_⟩
  walk_at "go"
  refine ⟨r3, rfl, by omega, by omega, for_range (fun i σ H' => ∃ z v, σ = [some (.ref s'), some (.ref t), some (.str "abcdefghijklmnopqrstuvwxyz0123456789"), some (.int r1), some (.str z), v, none, none] ∧ Nm (i + 1) z ∧ SdAt s' H' ∧ But s' H H') ⟨⟨#[c]⟩, none, rfl, one_nm hc, hs3, (b1.trans b2).trans b3⟩ (fun i σ' H' hi hp => ?_) fun σ' H' hp => ?_⟩
  · obtain ⟨z, v, rfl, nz, hs4, b4⟩ := hp
    walk_at "go"
    refine ⟨s', 36, rfl, hs4, by decide, by decide, fun r4 H4 r4a r4b hs5 b5 => ?_⟩
    obtain ⟨c, ec⟩ := atI_ex (xs := ("abcdefghijklmnopqrstuvwxyz0123456789" : Str).cps.toList) r4a (by rw [len36]; omega)
    refine s_ixS ln36 ec ?_
    have l1 : (⟨#[c]⟩ : Str).length = 1 := rfl
    have := nz.2.1
    refine s_addS (line_of (by omega)) ?_
    walk_at "go"
    refine ⟨_, _, rfl, nz.app (l := 1) (fun d hd => ?_) (Nat.le_refl _), hs5, b4.trans b5⟩
    have : d = c := by simpa using hd
    subst this
    obtain ⟨j, _, e, _⟩ := atI_get ec
    exact List.mem_of_getElem? e
  · obtain ⟨z, v, rfl, nz, hs4, b4⟩ := hp
    walk_at "go"
    refine s_eq rfl ?_
    walk_at "go"
    refine iteD (fun h1 => ?a) fun h1 => ?b
    case' a =>
      walk_at "go"
      refine ⟨by show 10 ≤ sizeLine; decide, ?_⟩
      walk_at "new"; rename_i p n H5 s5 e5
      walk_at "go"
      refine ⟨s', 10, rfl, hs4.mono s5, by decide, by decide, fun r6 H6 r6a r6b hs6 b6 => ?_⟩
      obtain ⟨u, eu⟩ := atI_ex (xs := words) r6a (by show r6 < 10; omega)
      obtain ⟨z, rfl, nz⟩ := words_nm eu
      refine s_ixL (SqL.of (b6 _ _ e5 (SdAt.ne hs4 n).symm)) eu ?_
      have b4 : But s' H H6 := (b4.trans (But.of s5)).trans b6
      have hs4 : SdAt s' H6 := hs6
    case' b =>
      have nz := nz.mono (l := 5) (by omega)
      obtain ⟨H6, rfl⟩ : ∃ H6 : Hp, H6 = H' := ⟨_, rfl⟩
    all_goals
      walk_at "go"
      have ht4 : H6 t = some (.lst (zs.map V.str)) := b4 _ _ ht hts
      refine while_by (fun σ H' => ∃ n : Nat, σ = [some (.ref s'), some (.ref t), some (.str "abcdefghijklmnopqrstuvwxyz0123456789"), some (.int r1), some (.str z), v, some (.str (nTry z n)), some (.int n)] ∧ H' = H6 ∧ n ≤ zs.length ∧ ∀ i, i < n → nTry z i ∈ zs)
        (fun σ _ => muN σ) ⟨0, rfl, rfl, Nat.zero_le _, fun i hi => absurd hi (Nat.not_lt_zero i)⟩ (fun σ H' hp => ?_) in_mono
      obtain ⟨n, rfl, rfl, hn, hin⟩ := hp
      walk_at "go"
      refine s_inL (SqL.of ht4) rfl (flat_strs zs) ?_
      rw [inV_strs]
      walk_at "go"
      refine iteD (fun h2 => ?_) fun h2 => ?_
      · walk_at "go"
        have hin' : ∀ i, i < n + 1 → nTry z i ∈ zs := fun i hi => by
          by_cases e : i = n
          · subst e; exact h2
          · exact hin i (by omega)
        have hn' := tries_few (by omega) hin'
        have en : ((n : Int) + 1) = ((n + 1 : Nat) : Int) := by omega
        rw [en]
        refine ⟨_, rfl, ?_, ?_⟩
        · show (n + 1 : Nat).log2 < 1920
          exact Nat.lt_of_le_of_lt (Nat.log2_le_self _) (by omega)
        have h60 : n + 1 < 60 := by omega
        have := (nT_ok (n + 1) h60).2.2
        have l5 := nz.2.1
        refine s_addS (line_of (by show z.length + (nT (n + 1)).length ≤ 100000; omega)) ?_
        walk_at "go"
        refine ⟨⟨n + 1, rfl, rfl, hn', hin'⟩, ?_⟩
        show 60 - (n + 1) < 60 - n
        omega
      · walk_at "go"
        exact k _ _ (nTry_nm nz (by omega)) h2 hs4 b4
/-- names, each another one -/
def Nms (k : Nat) (zs : List Str) : Prop := (∀ z ∈ zs, Nm k z) ∧ zs.Nodup
theorem Nms.snoc {k : Nat} {zs : List Str} {z : Str} (h : Nms k zs) (hz : Nm k z) (hn : z ∉ zs) : Nms k (zs ++ [z]) :=
  ⟨fun y hy => by
    rcases List.mem_append.mp hy with h' | h'
    · exact h.1 y h'
    · rw [List.mem_singleton.mp h']; exact hz,
  List.nodup_append.mpr ⟨h.2, by simp, fun a ha b hb e => by
    rw [List.mem_singleton.mp hb] at e
    exact hn (e ▸ ha)⟩⟩
def sp_l_names : Sp := fun vs H Q _ => ∃ (s : Addr) (m : Int), vs = [.ref s, .int m] ∧ SdAt s H ∧ 0 ≤ m ∧ m ≤ 20 ∧ ∀ l zs H', H l = none → zs.length = m.toNat → Nms 7 zs → H' l = some (.lst (zs.map V.str)) → SdAt s H' → But s H H' → Q (.ref l) H'
theorem c_l_names (T : Txt K mg) : Cal P w K mg base CX0 3 "_law_names" sp_l_names := by
  obtain ⟨fd, F⟩ := T.d_l_names
  refine ⟨_, fd, _, F.ok (k := 2) sc_l_names (fun vs H Q E h => by obtain ⟨_, _, rfl, _⟩ := h; rfl) (fun cdv A outer s H vs Q E hr h => ?_), T.g_l_names, F.kp, F.bindsN fun _ _ _ _ _ _ us hl => match us, hl with | [_, _], _ => rfl⟩
  obtain ⟨s', m, rfl, hs, hm0, hm1, k⟩ := h
  refine ⟨_, PSs.nox (pss_cons (ps_set (i := 2) sc_l_names.nd rfl (.inl rfl) (pe_lst pa_nil))
      (pss_cons (ps_for PassesOwn.never rfl (pi_range1 rfl T.n_range (pa_cons (pv 1) pa_nil)) (pg_name (i := 3) sc_l_names.nd rfl (.inl rfl))
        (pss_one (ps_expr (pe_bm PySem.F.plainAttrs_list PySem.F.slot_list_append PySem.F.type_list_append mt_append (pv 2) (pa_cons (pe_c (c_l_name T) hr (by first | decide | omega) at0 rfl (pa_cons (pv 0) (pa_cons (pv 2) pa_nil))) pa_nil)))))
      (pss_one (ps_ret (pv 2))))), ?_⟩
  walk_at "go"
  refine ⟨by show 0 ≤ sizeLine; decide, ?_⟩
  walk_at "new"; rename_i p n1 H1 s1 e1
  walk_at "go"
  refine ⟨m, rfl, by omega, by omega, for_range (fun i σ H' => ∃ zs v, σ = [some (.ref s'), some (.int m), some (.ref p), v] ∧ zs.length = i ∧ Nms 7 zs ∧ H' p = some (.lst (zs.map V.str)) ∧ SdAt s' H' ∧ But s' H H') ⟨[], none, rfl, rfl, ⟨fun z h => absurd h List.not_mem_nil, List.nodup_nil⟩, e1, hs.mono s1, But.of s1⟩ (fun i σ' H' hi hp => ?_) fun σ' H' hp => ?_⟩
  · obtain ⟨zs, v, rfl, hl, nz, hz, hs2, b2⟩ := hp
    walk_at "go"
    refine ⟨.inl ⟨rfl, _, SqL.of hz⟩, ?_⟩
    walk_at "go"
    refine ⟨s', p, zs, rfl, hs2, hz, by omega, fun z H3 nz3 hn3 hs3 b3 => ?_⟩
    walk_at "go"
    have hps := sd_ne hs2 hz
    refine ⟨p, _, _, rfl, rfl, b3 _ _ hz hps, line_lt (by rw [List.length_map]; omega), ?_⟩
    obtain ⟨a, b, c, e, sd⟩ := hs3
    refine ⟨zs ++ [z], _, rfl, by rw [List.length_append, hl]; rfl, nz.snoc nz3 hn3, by rw [List.map_append]; exact upd_same, ⟨a, b, c, by rw [upd_ne hps.symm]; exact e, sd⟩, fun x o ex hx => ?_⟩
    rw [upd_ne (ne_of_none ex n1)]
    exact (b2.trans b3) x o ex hx
  · obtain ⟨zs, v, rfl, hl, nz, hz, hs2, b2⟩ := hp
    walk_at "go"
    exact k p zs _ n1 hl nz hz hs2 b2
end

section
variable {P : Program} {w : World} {K : PySem.W.Frag} {mg : Str → Option Value} {base : Heap}
/-- a for over a list that the invariant keeps -/
theorem for_keep {g : TG} {tb : TS} {D : Ends} {σ : L2.St} {H : Hp} {a : Addr} {xs : List V} (Pv : Nat → L2.St → Hp → Prop) (hk : ∀ i σ' H', Pv i σ' H' → SqL K H' a xs) (h0 : Pv 0 σ H)
    (hs : ∀ i x σ' H', xs[i]? = some x → Pv i σ' H' → g x σ' H' fun σ2 H2 => tb { D with nx := fun s h => Pv (i + 1) s h, ct := fun s h => Pv (i + 1) s h, bk := D.nx } σ2 H2)
    (hd : ∀ σ' H', Pv xs.length σ' H' → D.nx σ' H') : ForW (Itl K a) g tb D σ H := by
  refine ⟨fun i m σ' H' => m = xs.length - i ∧ i ≤ xs.length ∧ Pv i σ' H', ⟨_, rfl, Nat.zero_le _, h0⟩, ?_⟩
  rintro i m σ' H' ⟨rfl, hi, p⟩
  have sq := hk i σ' H' p
  by_cases hlt : i < xs.length
  · refine .inr ⟨⟨xs, xs[i], sq, List.getElem?_eq_getElem hlt⟩, fun s' h' => Pv (i + 1) s' h', fun s' h' q => ⟨xs.length - (i + 1), by omega, rfl, hlt, q⟩, fun x H'' yl => ?_⟩
    obtain ⟨e, yl⟩ := yl
    subst e
    exact hs i x σ' _ (yl xs sq) p
  · have ei : i = xs.length := by omega
    subst ei
    exact .inl ⟨⟨xs, sq, Nat.le_refl _⟩, hd σ' H' p⟩
/-- a list of pairs of a name and a list of values: the pairs' places, the lists' places -/
def PairsAt (H : Hp) (as ls : List Addr) (cs : List Ce) : Prop := as.length = cs.length ∧ ls.length = cs.length ∧ ∀ (i : Nat) a l c, as[i]? = some a → ls[i]? = some l → cs[i]? = some c → H a = some (.tup [.str c.1, .ref l]) ∧ H l = some (.lst (c.2.map V.str))
theorem PairsAt.get {H : Hp} {as ls : List Addr} {cs : List Ce} (h : PairsAt H as ls cs) {i : Nat} (hi : i < cs.length) : ∃ a l c, as[i]? = some a ∧ ls[i]? = some l ∧ cs[i]? = some c ∧ H a = some (.tup [.str c.1, .ref l]) ∧ H l = some (.lst (c.2.map V.str)) := by
  obtain ⟨h1, h2, h3⟩ := h
  have e1 := List.getElem?_eq_getElem (l := as) (i := i) (by omega)
  have e2 := List.getElem?_eq_getElem (l := ls) (i := i) (by omega)
  have e3 := List.getElem?_eq_getElem (l := cs) (i := i) hi
  exact ⟨_, _, _, e1, e2, e3, h3 i _ _ _ e1 e2 e3⟩
theorem PairsAt.to {H H' : Hp} {as ls : List Addr} {cs : List Ce} (h : PairsAt H as ls cs) (ha : ∀ a ∈ as, ∀ n l, H a = some (.tup [.str n, .ref l]) → H' a = H a) (hl : ∀ l ∈ ls, ∀ vs : List Str, H l = some (.lst (vs.map V.str)) → H' l = H l) : PairsAt H' as ls cs :=
  ⟨h.1, h.2.1, fun i a l c e1 e2 e3 => by
    obtain ⟨q1, q2⟩ := h.2.2 i a l c e1 e2 e3
    rw [ha a (List.mem_of_getElem? e1) _ _ q1, hl l (List.mem_of_getElem? e2) _ q2]
    exact ⟨q1, q2⟩⟩
theorem PairsAt.mono {H H' : Hp} {as ls : List Addr} {cs : List Ce} (h : PairsAt H as ls cs) (s : Same H H') : PairsAt H' as ls cs := h.to (fun a _ n l e => by rw [e]; exact s _ _ e) fun l _ vs e => by rw [e]; exact s _ _ e
theorem PairsAt.but {H H' : Hp} {as ls : List Addr} {cs : List Ce} {s : Addr} (h : PairsAt H as ls cs) (hs : SdAt s H) (b : But s H H') : PairsAt H' as ls cs :=
  h.to (fun a _ n l e => by
    rw [e]
    refine b _ _ e fun q => ?_
    obtain ⟨x, y, z, e', _⟩ := hs
    rw [q, e'] at e; cases e) fun l _ vs e => by rw [e]; exact b _ _ e (sd_ne hs e)
theorem PairsAt.upd {H : Hp} {as ls : List Addr} {cs : List Ce} {p : Addr} {o : HO} (h : PairsAt H as ls cs) (ha : ∀ a ∈ as, a ≠ p) (hl : ∀ l ∈ ls, l ≠ p) : PairsAt (upd H p o) as ls cs := h.to (fun a m _ _ _ => upd_ne (ha a m)) fun l m _ _ => upd_ne (hl l m)
theorem snoc_get {α : Type} {xs : List α} {x y : α} {i : Nat} (h : (xs ++ [x])[i]? = some y) : (i < xs.length ∧ xs[i]? = some y) ∨ (i = xs.length ∧ x = y) := by
  by_cases hi : i < xs.length
  · rw [List.getElem?_append_left hi] at h; exact .inl ⟨hi, h⟩
  · rw [List.getElem?_append_right (by omega)] at h
    have : i - xs.length = 0 := by
      cases hq : i - xs.length with
      | zero => rfl
      | succ q => rw [hq] at h; simp at h
    rw [this] at h
    exact .inr ⟨by omega, by simpa using h⟩
theorem PairsAt.snoc {H : Hp} {as ls : List Addr} {cs : List Ce} {a l : Addr} {c : Ce} (h : PairsAt H as ls cs) (ha : H a = some (.tup [.str c.1, .ref l])) (hl : H l = some (.lst (c.2.map V.str))) : PairsAt H (as ++ [a]) (ls ++ [l]) (cs ++ [c]) := by
  obtain ⟨h1, h2, h3⟩ := h
  refine ⟨by simp [h1], by simp [h2], fun i a' l' c' e1 e2 e3 => ?_⟩
  rcases snoc_get e1 with ⟨q1, q2⟩ | ⟨q1, q2⟩
  · rcases snoc_get e2 with ⟨r1, r2⟩ | ⟨r1, r2⟩
    · rcases snoc_get e3 with ⟨t1, t2⟩ | ⟨t1, t2⟩
      · exact h3 i _ _ _ q2 r2 t2
      · omega
    · omega
  · rcases snoc_get e2 with ⟨r1, r2⟩ | ⟨r1, r2⟩
    · omega
    · rcases snoc_get e3 with ⟨t1, t2⟩ | ⟨t1, t2⟩
      · omega
      · subst q2 r2 t2; exact ⟨ha, hl⟩
theorem PairsAt.nil {H : Hp} : PairsAt H [] [] [] := ⟨rfl, rfl, fun i a l c e => by simp at e⟩
theorem PairsAt.all {H : Hp} {as ls : List Addr} {cs : List Ce} (h : PairsAt H as ls cs) : AllAt (PairL K) H as cs := ⟨h.1, fun i a c e1 e2 => by
  have hi : i < cs.length := (List.getElem?_eq_some_iff.mp e2).1
  obtain ⟨a', l, c', f1, f2, f3, f4, f5⟩ := h.get hi
  rw [e1] at f1; cases f1
  rw [e2] at f3; cases f3
  exact ⟨l, .inl (.inl f4), SqL.of f5⟩⟩
/-- cells as they may be -/
def CsV (k : Nat) (cs : List Ce) : Prop := 1 ≤ cs.length ∧ cs.length ≤ 3 ∧ Nms k (cs.map (·.1)) ∧ ∀ c ∈ cs, 2 ≤ c.2.length ∧ c.2.length ≤ 4 ∧ Nms k c.2
theorem Nms.mono {k l : Nat} {zs : List Str} (h : Nms k zs) (hk : k ≤ l) : Nms l zs := ⟨fun z hz => (h.1 z hz).mono hk, h.2⟩
theorem CsV.mono {k l : Nat} {cs : List Ce} (h : CsV k cs) (hk : k ≤ l) : CsV l cs := ⟨h.1, h.2.1, h.2.2.1.mono hk, fun c hc => ⟨(h.2.2.2 c hc).1, (h.2.2.2 c hc).2.1, (h.2.2.2 c hc).2.2.mono hk⟩⟩
def sp_l_cells : Sp := fun vs H Q _ => ∃ s : Addr, vs = [.ref s] ∧ SdAt s H ∧ ∀ p as ls cs H', H p = none → H' p = some (.lst (as.map V.ref)) → PairsAt H' as ls cs → CsV 7 cs → SdAt s H' → But s H H' → Q (.ref p) H'
theorem c_l_cells (T : Txt K mg) : Cal P w K mg base CX0 4 "_law_cells" sp_l_cells := by
  obtain ⟨fd, F⟩ := T.d_l_cells
  refine ⟨_, fd, _, F.ok (k := 3) sc_l_cells (fun vs H Q E h => by obtain ⟨_, rfl, _⟩ := h; rfl) (fun cdv A outer s H vs Q E hr h => ?_), T.g_l_cells, F.kp, F.bindsN fun _ _ _ _ _ _ us hl => match us, hl with | [_], _ => rfl⟩
  obtain ⟨s', rfl, hs, k⟩ := h
  refine ⟨_, PSs.nox (pss_cons (ps_set (i := 1) sc_l_cells.nd rfl (.inl rfl) (pe_lst pa_nil))
      (pss_cons (ps_for PassesOwn.never rfl (oIt K (pe_c (c_l_names T) hr (by first | decide | omega) at0 rfl (pa_cons (pv 0) (pa_cons (pe_op (oAdd K) pe_int (pe_c (c_l_digit T) hr (by first | decide | omega) at0 rfl (pa_cons (pv 0) (pa_cons pe_int pa_nil)))) pa_nil)))) (pg_name (i := 2) sc_l_cells.nd rfl (.inl rfl))
        (pss_one (ps_expr (pe_bm PySem.F.plainAttrs_list PySem.F.slot_list_append PySem.F.type_list_append mt_append (pv 1) (pa_cons (pe_tup (pa_cons (pv 2) (pa_cons (pe_c (c_l_names T) hr (by first | decide | omega) at0 rfl (pa_cons (pv 0) (pa_cons (pe_op (oAdd K) pe_int (pe_c (c_l_digit T) hr (by first | decide | omega) at0 rfl (pa_cons (pv 0) (pa_cons pe_int pa_nil)))) pa_nil))) pa_nil))) pa_nil)))))
      (pss_one (ps_ret (pv 1))))), ?_⟩
  walk_at "go"
  refine ⟨by show 0 ≤ sizeLine; decide, ?_⟩
  walk_at "new"; rename_i p n1 H1 s1 e1
  walk_at "go"
  refine s_itL ?_
  walk_at "go"
  refine ⟨s', 3, rfl, hs.mono s1, by decide, by decide, fun r1 H2 r1a r1b hs2 b2 => ?_⟩
  walk_at "go"
  refine ⟨s', _, rfl, hs2, by omega, by omega, fun l0 zs H3 n3 lz nz e3 hs3 b3 => ?_⟩
  have hps := SdAt.ne hs n1
  have e1' : H3 p = some (.lst []) := b3 _ _ (b2 _ _ e1 hps.symm) hps.symm
  have hpl : p ≠ l0 := ne_of_none (b2 _ _ e1 hps.symm) n3
  have b03 : But s' H H3 := ((But.of s1).trans b2).trans b3
  refine ⟨l0, rfl, ⟨_, SqL.of e3⟩, for_keep (fun i σ H' => ∃ as ls cs v, σ = [some (.ref s'), some (.ref p), v] ∧ H' p = some (.lst (as.map V.ref)) ∧ PairsAt H' as ls cs ∧ (∀ a ∈ as, a ≠ p) ∧ (∀ l ∈ ls, l ≠ p) ∧ cs.map (·.1) = zs.take i ∧ cs.length = i ∧ (∀ c ∈ cs, 2 ≤ c.2.length ∧ c.2.length ≤ 4 ∧ Nms 7 c.2) ∧ SdAt s' H' ∧ But s' H H' ∧ H' l0 = some (.lst (zs.map V.str)) ∧ i ≤ 3)
    (fun i σ' H' h => by obtain ⟨_, _, _, _, _, _, _, _, _, _, _, _, _, _, q, _⟩ := h; exact SqL.of q) ⟨[], [], [], none, rfl, e1', .nil, fun _ h => absurd h List.not_mem_nil, fun _ h => absurd h List.not_mem_nil, rfl, rfl, fun _ h => absurd h List.not_mem_nil, hs3, b03, e3, by decide⟩ (fun i x σ' H' hx hp => ?_) fun σ' H' hp => ?_⟩
  · obtain ⟨as, ls, cs, v, rfl, hp1, hP, ha, hl, hn, hlen, hc, hs4, b4, e4, h3⟩ := hp
    rw [List.getElem?_map] at hx
    obtain ⟨z, ez, rfl⟩ : ∃ z, zs[i]? = some z ∧ x = .str z := by
      cases q : zs[i]? with
      | none => rw [q] at hx; cases hx
      | some z => rw [q] at hx; exact ⟨z, rfl, (Option.some.inj hx).symm⟩
    have hi : i < zs.length := (List.getElem?_eq_some_iff.mp ez).1
    walk_at "go"
    refine ⟨.inl ⟨rfl, _, SqL.of hp1⟩, ?_⟩
    walk_at "go"
    refine ⟨s', 3, rfl, hs4, by decide, by decide, fun r5 H5 r5a r5b hs5 b5 => ?_⟩
    walk_at "go"
    refine ⟨s', _, rfl, hs5, by omega, by omega, fun l vs H6 n6 lv nv e6 hs6 b6 => ?_⟩
    walk_at "go"
    refine ⟨by show 2 ≤ sizeLine; decide, ?_⟩
    walk_at "new"; rename_i a n7 H7 s7 e7
    have b46 := b5.trans b6
    have hp5 := b5 _ _ hp1 hps.symm
    have hp6 := b6 _ _ hp5 hps.symm
    have hp7 := s7 _ _ hp6
    have pl : l ≠ p := (ne_of_none hp5 n6).symm
    have pa : a ≠ p := (ne_of_none hp6 n7).symm
    have hP7 := (hP.but hs4 b46).mono s7
    have l0s : l0 ≠ s' := sd_ne hs4 e4
    have e7' : H7 l0 = some (.lst (zs.map V.str)) := s7 _ _ (b46 _ _ e4 l0s)
    refine ⟨p, _, _, rfl, rfl, hp7, line_lt (by rw [List.length_map, hP.1]; omega), ?_⟩
    refine ⟨as ++ [a], ls ++ [l], cs ++ [(z, vs)], _, rfl, by rw [List.map_append]; exact upd_same, (hP7.snoc (c := (z, vs)) e7 (s7 _ _ e6)).upd ?_ ?_, ?_, ?_, ?_, ?_, ?_, ?_, ?_, ?_, ?_⟩
    · intro x hx
      rcases List.mem_append.mp hx with h | h
      · exact ha x h
      · rw [List.mem_singleton.mp h]; exact pa
    · intro x hx
      rcases List.mem_append.mp hx with h | h
      · exact hl x h
      · rw [List.mem_singleton.mp h]; exact pl
    · intro x hx
      rcases List.mem_append.mp hx with h | h
      · exact ha x h
      · rw [List.mem_singleton.mp h]; exact pa
    · intro x hx
      rcases List.mem_append.mp hx with h | h
      · exact hl x h
      · rw [List.mem_singleton.mp h]; exact pl
    · rw [List.map_append, hn, List.take_add_one, ez]; rfl
    · rw [List.length_append, hlen]; rfl
    · intro c hcm
      rcases List.mem_append.mp hcm with h | h
      · exact hc c h
      · rw [List.mem_singleton.mp h]
        exact ⟨by show 2 ≤ vs.length; omega, by show vs.length ≤ 4; omega, nv⟩
    · obtain ⟨x, y, u, e, sd⟩ := hs6.mono s7
      exact ⟨x, y, u, by rw [upd_ne hps]; exact e, sd⟩
    · intro x o ex hx
      rw [upd_ne (ne_of_none ex n1)]
      exact s7 _ _ (b46 x o (b4 x o ex hx) hx)
    · rw [upd_ne hpl.symm]; exact e7'
    · omega
  · obtain ⟨as, ls, cs, v, rfl, hp1, hP, ha, hl, hn, hlen, hc, hs4, b4, e4, h3⟩ := hp
    walk_at "go"
    rw [List.length_map] at hlen h3 hn
    rw [List.take_length] at hn
    exact k p as ls cs H' n1 hp1 hP ⟨by omega, by omega, by rw [hn]; exact nz, hc⟩ hs4 b4
end

section
variable {P : Program} {w : World} {K : PySem.W.Frag} {mg : Str → Option Value} {base : Heap}
/-- a comprehension without a test, with an invariant over what is made so far -/
theorem lc_inv {J : It} {g : TG} {te : TE} {vs : List Nat} {σ : L2.St} {H1 : Hp} {Q : VK} {n : Nat} {S : Nat → V → Hp → Prop} (T : Still J H1 n S) (I : Addr → Nat → List V → Hp → Prop) (hn : n ≤ 100000)
    (hI : ∀ D i ys H H', (∀ b o, b ≠ D → H b = some o → H' b = some o) → I D i ys H → I D i ys H') (h0 : ∀ D H', H1 D = none → I D 0 [] H')
    (hs : ∀ D i x ys H', H1 D = none → i < n → S i x H' → Same H1 H' → H' D = some (.lst ys) → I D i ys H' → ∀ Q' : VK, (∀ y H'', Same H' H'' → I D (i + 1) (ys ++ [y]) H'' → Q' y H'') → g x (wipe σ vs) H' fun σ2 H2 => wipe σ2 vs = wipe σ vs ∧ te σ2 H2 Q')
    (k : ∀ D ys H', H1 D = none → Same H1 H' → H' D = some (.lst ys) → I D n ys H' → Q (.ref D) H')
    (hg : ∀ x σ1 H' (P P' : L2.St → Hp → Prop), (∀ s h, P s h → P' s h) → g x σ1 H' P → g x σ1 H' P') : LcW J g te vs σ H1 Q := by
  intro D hD
  refine ⟨fun i m H => m = n - i ∧ i ≤ n ∧ Same H1 H ∧ ∃ ys, H D = some (.lst ys) ∧ ys.length = i ∧ I D i ys H, ⟨n, rfl, Nat.zero_le _, same_new hD, [], upd_same, rfl, h0 D _ hD⟩, ?_⟩
  rintro i m H ⟨rfl, hi, s, ys, hy, hl, hr⟩
  by_cases hlt : i < n
  · refine .inr ⟨T.go i H s hlt, fun H' => i + 1 ≤ n ∧ Same H1 H' ∧ ∃ ys, H' D = some (.lst ys) ∧ ys.length = i + 1 ∧ I D (i + 1) ys H', fun H' p => ⟨n - (i + 1), by omega, rfl, p.1, p.2⟩, fun x H' yl => ?_⟩
    obtain ⟨sx, hS⟩ := T.yl i x H H' s hlt yl
    refine hg _ _ _ _ _ (fun s2 h2 z => And.intro z.1 (tyes_to z.2)) (hs D i x ys H' hD hlt hS (s.trans sx) (sx _ _ hy) (hI D i ys H H' (fun b o _ q => sx b o q) hr) _ fun y H'' e hy' => ?_)
    refine ⟨ys, e _ _ (sx _ _ hy), Nat.lt_of_lt_of_le (by omega : ys.length < 100001) (by rw [sizeLine_eq]; decide), hlt, same_mut ((s.trans sx).trans e) hD, ys ++ [y], upd_same, by rw [List.length_append, hl]; rfl, ?_⟩
    exact hI D _ _ H'' _ (fun b o hb q => by rw [upd_ne hb]; exact q) hy'
  · have ei : i = n := by omega
    subst ei
    exact .inl ⟨T.st H s, k D ys H hD s hy hr⟩
/-- copies of pairs: new tuples of new lists -/
def CopyI (H1 : Hp) (cs : List Ce) (D : Addr) (i : Nat) (ys : List V) (H : Hp) : Prop := ∃ as ls, ys = as.map V.ref ∧ PairsAt H as ls (cs.take i) ∧ ls.Nodup ∧ (∀ l ∈ ls, H1 l = none ∧ l ≠ D) ∧ ∀ a ∈ as, H1 a = none ∧ a ≠ D
theorem CopyI.to {H1 : Hp} {cs : List Ce} : ∀ D i ys H H', (∀ b o, b ≠ D → H b = some o → H' b = some o) → CopyI H1 cs D i ys H → CopyI H1 cs D i ys H' := by
  rintro D i ys H H' m ⟨as, ls, e, hP, hn, hl, ha⟩
  exact ⟨as, ls, e, hP.to (fun a ma n l q => by rw [q]; exact m _ _ (ha a ma).2 q) (fun l ml vs q => by rw [q]; exact m _ _ (hl l ml).2 q), hn, hl, ha⟩
theorem CopyI.zero {H1 : Hp} {cs : List Ce} : ∀ D H', H1 D = none → CopyI H1 cs D 0 [] H' := fun D H' _ => ⟨[], [], rfl, .nil, List.nodup_nil, fun _ h => absurd h List.not_mem_nil, fun _ h => absurd h List.not_mem_nil⟩
theorem CopyI.snoc {H1 : Hp} {cs : List Ce} {D : Addr} {i : Nat} {ys : List V} {H H' H'' : Hp} {c : Ce} {a l : Addr} (s1 : Same H1 H) (h : CopyI H1 cs D i ys H) (hD : H D = some (.lst ys)) (ec : cs[i]? = some c) (s2 : Same H H') (nl : H l = none) (hl : H' l = some (.lst (c.2.map V.str))) (na : H' a = none) (s3 : Same H' H'') (ha : H'' a = some (.tup [.str c.1, .ref l])) : CopyI H1 cs D (i + 1) (ys ++ [.ref a]) H'' := by
  obtain ⟨as, ls, e, hP, hn, hl', ha'⟩ := h
  have s := s2.trans s3
  have nl1 : H1 l = none := by
    cases q : H1 l with
    | none => rfl
    | some o => rw [s1 _ _ q] at nl; cases nl
  have na1 : H1 a = none := by
    cases q : H1 a with
    | none => rfl
    | some o => rw [s2 _ _ (s1 _ _ q)] at na; cases na
  refine ⟨as ++ [a], ls ++ [l], by rw [e, List.map_append]; rfl, ?_, ?_, ?_, ?_⟩
  · rw [List.take_add_one, ec]
    exact (hP.mono s).snoc ha (s3 _ _ hl)
  · refine List.nodup_append.mpr ⟨hn, by simp, fun x hx y hy q => ?_⟩
    rw [List.mem_singleton.mp hy] at q
    subst q
    obtain ⟨i, hi, e⟩ := List.mem_iff_getElem.mp hx
    obtain ⟨a1, l1, c1, f1, f2, f3, f4, f5⟩ := hP.get (i := i) (by rw [← hP.2.1]; exact hi)
    rw [List.getElem?_eq_getElem hi, e] at f2
    cases f2
    rw [nl] at f5; cases f5
  · intro x hx
    rcases List.mem_append.mp hx with h | h
    · exact hl' x h
    · rw [List.mem_singleton.mp h]; exact ⟨nl1, (ne_of_none hD nl).symm⟩
  · intro x hx
    rcases List.mem_append.mp hx with h | h
    · exact ha' x h
    · rw [List.mem_singleton.mp h]; exact ⟨na1, (ne_of_none (s2 _ _ hD) na).symm⟩
theorem iteDF {c A B : Prop} [Decidable c] (h : ¬ c) (k : B) : if decide c = true then A else B := by
  rw [if_neg (by simp [h])]; exact k
theorem iteDT {c A B : Prop} [Decidable c] (h : c) (k : A) : if decide c = true then A else B := by
  rw [if_pos (by simp [h])]; exact k
theorem s_bm0 {σ : L2.St} {H : Hp} {Q : VK} {T : String} {r : V → List V → Hp → VK → Prop} {to : TE} (k : to σ H fun x H1 => tyV K T x H1 ∧ r x [] H1 Q) : tBM0 K T r to σ H Q := k
/-! changed cells -/
def Z9 : Str := "zzzzzzzz9"
theorem z9_nm : Nm 9 Z9 := ⟨by decide +kernel, by decide +kernel, ⟨122, List.replicate 7 122 ++ [57], by decide +kernel, by decide +kernel⟩, by decide +kernel⟩
theorem z9_new {zs : List Str} (h : Nms 7 zs) : Z9 ∉ zs := fun m => by
  have := (h.1 _ m).2.1
  exact absurd this (by decide +kernel)
theorem Nms.set {zs : List Str} {i : Nat} (h : Nms 7 zs) : Nms 9 (zs.set i Z9) := by
  have h9 := h.mono (l := 9) (by decide)
  refine ⟨fun z hz => ?_, ?_⟩
  · rcases List.mem_or_eq_of_mem_set hz with q | q
    · exact h9.1 z q
    · rw [q]; exact z9_nm
  · refine List.nodup_iff_pairwise_ne.mpr (List.pairwise_iff_getElem.mpr fun a b ha hb hab e => ?_)
    rw [List.length_set] at ha hb
    rw [List.getElem_set, List.getElem_set] at e
    split at e <;> split at e
    · omega
    · exact z9_new h (e ▸ List.getElem_mem _)
    · exact z9_new h (e ▸ List.getElem_mem _)
    · exact (List.pairwise_iff_getElem.mp (List.nodup_iff_pairwise_ne.mp h.2)) a b ha hb hab e
theorem Nms.rev {k : Nat} {zs : List Str} (h : Nms k zs) : Nms k zs.reverse := ⟨fun z hz => h.1 z (List.mem_reverse.mp hz), List.nodup_iff_pairwise_ne.mpr (List.pairwise_reverse.mpr ((List.nodup_iff_pairwise_ne.mp h.2).imp fun h e => h e.symm))⟩
theorem Nms.last {k : Nat} {zs : List Str} (h : Nms k zs) : Nms k zs.dropLast := ⟨fun z hz => h.1 z (List.dropLast_subset _ hz), h.2.sublist (List.dropLast_sublist _)⟩
theorem CsV.vals {cs : List Ce} {i : Nat} {c : Ce} {vs : List Str} (h : CsV 7 cs) (e : cs[i]? = some c) (h1 : 2 ≤ vs.length) (h2 : vs.length ≤ 4) (h3 : Nms 9 vs) : CsV 9 (cs.set i (c.1, vs)) := by
  have h9 := h.mono (l := 9) (by decide)
  refine ⟨by rw [List.length_set]; exact h.1, by rw [List.length_set]; exact h.2.1, ?_, fun d hd => ?_⟩
  · have : (cs.set i (c.1, vs)).map (·.1) = cs.map (·.1) := by
      apply List.ext_getElem?
      intro j
      rw [List.getElem?_map, List.getElem?_map, List.getElem?_set]
      split
      · next q =>
        subst q
        have hi := (List.getElem?_eq_some_iff.mp e).1
        rw [e]; simp [hi]
      · rfl
    rw [this]; exact h9.2.2.1
  · rcases List.mem_or_eq_of_mem_set hd with q | q
    · exact h9.2.2.2 d q
    · rw [q]; exact ⟨h1, h2, h3⟩
theorem CsV.name {cs : List Ce} {i : Nat} {c : Ce} (h : CsV 7 cs) (e : cs[i]? = some c) : CsV 9 (cs.set i (Z9, c.2)) := by
  have h9 := h.mono (l := 9) (by decide)
  refine ⟨by rw [List.length_set]; exact h.1, by rw [List.length_set]; exact h.2.1, ?_, fun d hd => ?_⟩
  · rw [List.map_set]; exact h.2.2.1.set
  · rcases List.mem_or_eq_of_mem_set hd with q | q
    · exact h9.2.2.2 d q
    · rw [q]; exact h9.2.2.2 c (List.mem_of_getElem? e)
theorem CsV.rev {k : Nat} {cs : List Ce} (h : CsV k cs) : CsV k cs.reverse := ⟨by rw [List.length_reverse]; exact h.1, by rw [List.length_reverse]; exact h.2.1, by rw [List.map_reverse]; exact h.2.2.1.rev, fun c hc => h.2.2.2 c (List.mem_reverse.mp hc)⟩
theorem PairsAt.setL {H : Hp} {as ls : List Addr} {cs : List Ce} {i : Nat} {l : Addr} {c : Ce} {vs : List Str} (h : PairsAt H as ls cs) (hn : ls.Nodup) (el : ls[i]? = some l) (ec : cs[i]? = some c) : PairsAt (L2.upd H l (.lst (vs.map V.str))) as ls (cs.set i (c.1, vs)) := by
  refine ⟨by rw [List.length_set]; exact h.1, by rw [List.length_set]; exact h.2.1, fun j a l' c' e1 e2 e3 => ?_⟩
  have hi := (List.getElem?_eq_some_iff.mp ec).1
  have hj := (List.getElem?_eq_some_iff.mp e3).1
  rw [List.length_set] at hj
  obtain ⟨a2, l2, c2, f1, f2, f3, f4, f5⟩ := h.get hj
  rw [e1] at f1; cases f1
  rw [e2] at f2; cases f2
  obtain ⟨a3, l3, c3, g1, g2, g3, g4, g5⟩ := h.get hi
  rw [el] at g2; cases g2
  have nal : a ≠ l := fun q => by rw [q, g5] at f4; cases f4
  rw [List.getElem?_set] at e3
  by_cases q : i = j
  · subst q
    rw [if_pos rfl, if_pos hi] at e3
    cases e3
    rw [e2] at el; cases el
    rw [ec] at f3; cases f3
    exact ⟨by rw [upd_ne nal]; exact f4, upd_same⟩
  · rw [if_neg q] at e3
    rw [e3] at f3; cases f3
    have nll : l' ≠ l := fun r => by
      subst r
      have h1 := (List.getElem?_eq_some_iff.mp e2).2
      have h2 := (List.getElem?_eq_some_iff.mp el).2
      exact q ((List.getElem_inj hn).mp (h2.trans h1.symm))
    exact ⟨by rw [upd_ne nal]; exact f4, by rw [upd_ne nll]; exact f5⟩
theorem PairsAt.rev {H : Hp} {as ls : List Addr} {cs : List Ce} (h : PairsAt H as ls cs) : PairsAt H as.reverse ls.reverse cs.reverse := by
  refine ⟨by simp [h.1], by simp [h.2.1], fun i a l c e1 e2 e3 => ?_⟩
  have hi := (List.getElem?_eq_some_iff.mp e3).1
  rw [List.length_reverse] at hi
  rw [List.getElem?_reverse (by rw [h.1]; exact hi)] at e1
  rw [List.getElem?_reverse (by rw [h.2.1]; exact hi)] at e2
  rw [List.getElem?_reverse hi] at e3
  rw [h.1] at e1
  rw [h.2.1] at e2
  exact h.2.2 _ _ _ _ e1 e2 e3
theorem PairsAt.setA {H : Hp} {as ls : List Addr} {cs : List Ce} {i : Nat} {a l : Addr} {c : Ce} {z : Str} (h : PairsAt H as ls cs) (el : ls[i]? = some l) (ec : cs[i]? = some c) (ha : H a = some (.tup [.str z, .ref l])) : PairsAt H (as.set i a) ls (cs.set i (z, c.2)) := by
  refine ⟨by simp [h.1], by simp [h.2.1], fun j a' l' c' e1 e2 e3 => ?_⟩
  have hi := (List.getElem?_eq_some_iff.mp ec).1
  rw [List.getElem?_set] at e1 e3
  by_cases q : i = j
  · subst q
    rw [if_pos rfl, if_pos (by rw [h.1]; exact hi)] at e1
    rw [if_pos rfl, if_pos hi] at e3
    cases e1; cases e3
    rw [el] at e2; cases e2
    obtain ⟨a3, l3, c3, g1, g2, g3, g4, g5⟩ := h.get hi
    rw [el] at g2; cases g2
    rw [ec] at g3; cases g3
    exact ⟨ha, g5⟩
  · rw [if_neg q] at e1 e3
    exact h.2.2 j _ _ _ e1 e2 e3
end

section
variable {P : Program} {w : World} {K : PySem.W.Frag} {mg : Str → Option Value} {base : Heap}
local macro_rules | `(tactic| walk_at "skip") => `(tactic| ((try walk_at "go"); refine s_eq rfl ?_; walk_at "go"; refine iteDF (by decide) ?_; walk_at "go"))
local macro_rules | `(tactic| walk_at "take") => `(tactic| (refine s_eq rfl ?_; walk_at "go"; refine iteDT rfl ?_; walk_at "go"))
def Z8 : Str := "zzzzzzzz8"
def Nz8 (cs : List Ce) : Prop := ∀ c ∈ cs, c.1 ≠ Z8
theorem CsV.nz {cs : List Ce} (h : CsV 7 cs) : Nz8 cs := fun c hc e => by
  have := (h.2.2.1.1 c.1 (List.mem_map.mpr ⟨c, hc, rfl⟩)).2.1
  rw [e] at this
  exact absurd this (by decide +kernel)
theorem Nz8.set {cs : List Ce} {i : Nat} {d : Ce} (h : Nz8 cs) (hd : d.1 ≠ Z8) : Nz8 (cs.set i d) := fun c hc => by
  rcases List.mem_or_eq_of_mem_set hc with q | q
  · exact h c q
  · rw [q]; exact hd
theorem Nz8.rev {cs : List Ce} (h : Nz8 cs) : Nz8 cs.reverse := fun c hc => h c (List.mem_reverse.mp hc)
def sp_l_other (K : PySem.W.Frag) : Sp := fun vs H Q _ => ∃ (s p : Addr) (t : Int) (as ls : List Addr) (cs : List Ce), vs = [.ref s, .ref p, .int t] ∧ SdAt s H ∧ H p = some (.lst (as.map V.ref)) ∧ PairsAt H as ls cs ∧ CsV 7 cs ∧ 0 ≤ t ∧ t < 8 ∧
  ∀ q as' ls' cs' H', H q = none → H' q = some (.lst (as'.map V.ref)) → PairsAt H' as' ls' cs' → CsV 9 cs' → Nz8 cs' → SdAt s H' → But s H H' → Q (.ref q) H'
theorem c_l_other (T : Txt K mg) : Cal P w K mg base CX0 2 "_law_other" (sp_l_other K) := by
  obtain ⟨fd, F⟩ := T.d_l_other
  refine ⟨_, fd, _, F.ok (k := 1) sc_l_other (fun vs H Q E h => by obtain ⟨_, _, _, _, _, _, rfl, _⟩ := h; rfl) (fun cdv A outer s H vs Q E hr h => ?_), T.g_l_other, F.kp, F.bindsN fun _ _ _ _ _ _ us hl => match us, hl with | [_, _, _], _ => rfl⟩
  obtain ⟨s', p0, t, as0, ls0, cs, rfl, hs, hp0, hP0, hV, ht0, ht1, k⟩ := h
  refine ⟨_, PSs.nox (pss_cons (ps_setLc (i := 5) (own := [("_law_name_here", 3), ("_law_values", 4)]) rfl sc_l_other.nd rfl rfl (sw_true rfl rfl rfl (by decide +kernel)) (oIt K (pv 1)) (blkOk_by (N := ["_law_s", "_law_cells_here", "_law_turn0", "_law_name_here", "_law_values", "_law_found", "_law_at"]) (sc := defScope s_l_other) (by decide +kernel)) (fun _ _ _ _ _ => (oTup K (n := 2) rfl (pgs_cons (pg_name (i := 3) sc_l_other.nd rfl (.inl rfl)) (pgs_cons (pg_name (i := 4) sc_l_other.nd rfl (.inl rfl)) pgs_nil)))) (fun _ _ _ _ _ => pts_nil) (fun _ _ _ _ _ => (pe_tup (pa_cons (pv 3) (pa_cons (pe_callTy (oList K) (by rfl) T.n_list (by decide +kernel) (pa_cons (pv 4) pa_nil)) pa_nil)))))
      (pss_cons (ps_set (i := 6) sc_l_other.nd rfl (.inl rfl) (pe_c (c_l_digit T) hr (by first | decide | omega) at0 rfl (pa_cons (pv 0) (pa_cons (pe_callB (oLen K) (by rfl) T.n_len PySem.boot_len (pa_cons (pv 5) pa_nil)) pa_nil))))
      (pss_cons (ps_asg (pe_ix (oIx K) (pv 5) (pv 6) (fun _ _ => rfl)) (oTup K (n := 2) rfl (pgs_cons (pg_name (i := 3) sc_l_other.nd rfl (.inl rfl)) (pgs_cons (pg_name (i := 4) sc_l_other.nd rfl (.inl rfl)) pgs_nil))))
      (pss_cons (ps_if (PW.pt (pw_and (pt_cmpR (oEq K hr.units) (pv 2) pe_int (nomark _)) (pw_and1 (pt_cmpR op_gt (pe_callB (oLen K) (by rfl) T.n_len PySem.boot_len (pa_cons (pv 4) pa_nil)) pe_int (nomark _)))))
        (pss_one (ps_expr (pe_bm0 PySem.F.plainAttrs_list PySem.F.slot_list_pop PySem.F.type_list_pop mt_pop (pv 4))))
        pss_nil)
      (pss_cons (ps_if (PW.pt (pw_and (pt_cmpR (oEq K hr.units) (pv 2) pe_int (nomark _)) (pw_and1 (pt_cmpR op_lt (pe_callB (oLen K) (by rfl) T.n_len PySem.boot_len (pa_cons (pv 4) pa_nil)) pe_int (nomark _)))))
        (pss_one (ps_expr (pe_bm PySem.F.plainAttrs_list PySem.F.slot_list_append PySem.F.type_list_append mt_append (pv 4) (pa_cons pe_str pa_nil))))
        pss_nil)
      (pss_cons (ps_if (pt_cmpR (oEq K hr.units) (pv 2) pe_int (nomark _))
        (pss_one (ps_expr (pe_bm0 PySem.F.plainAttrs_list PySem.F.slot_list_reverse PySem.F.type_list_reverse mt_reverse (pv 4))))
        pss_nil)
      (pss_cons (ps_if (pt_cmpR (oEq K hr.units) (pv 2) pe_int (nomark _))
        (pss_one (ps_expr (pe_bm0 PySem.F.plainAttrs_list PySem.F.slot_list_reverse PySem.F.type_list_reverse mt_reverse (pv 5))))
        pss_nil)
      (pss_cons (ps_if (pt_cmpR (oEq K hr.units) (pv 2) pe_int (nomark _))
        (pss_one (ps_asg pe_str (pg_sub (pv 4) (pe_c (c_l_digit T) hr (by first | decide | omega) at0 rfl (pa_cons (pv 0) (pa_cons (pe_callB (oLen K) (by rfl) T.n_len PySem.boot_len (pa_cons (pv 4) pa_nil)) pa_nil))) set_list)))
        pss_nil)
      (pss_cons (ps_if (pt_cmpR (oEq K hr.units) (pv 2) pe_int (nomark _))
        (pss_one (ps_asg (pe_tup (pa_cons pe_str (pa_cons (pv 4) pa_nil))) (pg_sub (pv 5) (pv 6) set_list)))
        pss_nil)
      (pss_one (ps_ret (pv 5)))))))))))), ?_⟩
  have hlen := hV.2.1
  walk_at "go"
  refine s_itL ?_
  walk_at "go"
  refine ⟨p0, rfl, ⟨_, SqL.of hp0⟩, lc_inv (still_list (SqL.of hp0)) (CopyI H cs) (by rw [List.length_map, hP0.1]; omega) CopyI.to CopyI.zero (fun D i x ys H' hD hi hx s1 hy hI Q' k' => ?_) (fun D ys H1 hD s1 hy hI => ?_) (tg_mono (tgc_mono (tgc_mono tgn_mono)))⟩
  · rw [List.length_map, hP0.1] at hi
    obtain ⟨a, l, c, f1, f2, f3, f4, f5⟩ := hP0.get hi
    rw [List.getElem?_map, f1] at hx
    cases hx
    refine s_gT (.inl (.inl (s1 _ _ f4))) rfl ?_
    walk_at "go"
    refine ⟨rfl, ?_⟩
    walk_at "go"
    refine s_lstL (SqL.of (s1 _ _ f5)) ?_
    walk_at "new"; rename_i l' nl H3 s3 e3
    walk_at "go"
    refine ⟨by show 2 ≤ sizeLine; decide, ?_⟩
    walk_at "new"; rename_i a' na H4 s4 e4
    exact k' _ _ (s3.trans s4) (hI.snoc s1 hy f3 s3 nl e3 na s4 e4)
  · obtain ⟨as, ls, rfl, hP, hn, hl, ha⟩ := hI
    rw [List.length_map, hP0.1, List.take_length] at hP
    walk_at "go"
    refine s_lenL (SqL.of hy) ?_
    walk_at "go"
    have hPl := hP.1
    have hV1 := hV.1
    refine ⟨s', _, rfl, hs.mono s1, by rw [List.length_map]; omega, by rw [List.length_map]; omega, fun r H2 ra rb hs2 b2 => ?_⟩
    rw [List.length_map] at rb
    obtain ⟨j, rfl⟩ : ∃ j : Nat, r = (j : Int) := ⟨r.toNat, by omega⟩
    have hDs : D ≠ s' := (SdAt.ne hs hD).symm
    have hy2 := b2 _ _ hy hDs
    have hP2 := hP.but (hs.mono s1) b2
    have b02 : But s' H H2 := (But.of s1).trans b2
    obtain ⟨a, l, c, f1, f2, f3, f4, f5⟩ := hP2.get (i := j) (by omega)
    have ⟨c1, c2, c3⟩ := hV.2.2.2 c (List.mem_of_getElem? f3)
    have ⟨nl, lD⟩ := hl l (List.mem_of_getElem? f2)
    have ls' : l ≠ s' := sd_ne hs2 f5
    have fin : ∀ (H3 : Hp) (vs : List Str), SdAt s' H3 → But s' H2 H3 → 2 ≤ vs.length → vs.length ≤ 4 → Nms 9 vs → Q (.ref D) (upd H3 l (.lst (vs.map V.str))) := by
      intro H3 vs hs3 b3 v1 v2 v3
      refine k D as ls _ _ hD (by rw [upd_ne lD.symm]; exact b3 _ _ hy2 hDs) ((hP2.but hs2 b3).setL hn f2 f3) (hV.vals f3 v1 v2 v3) (hV.nz.set (hV.nz c (List.mem_of_getElem? f3))) ?_ fun x o ex hx => ?_
      · obtain ⟨x, y, z, e, sd⟩ := hs3
        exact ⟨x, y, z, by rw [upd_ne ls'.symm]; exact e, sd⟩
      · rw [upd_ne (ne_of_none ex nl)]; exact (b02.trans b3) x o ex hx
    have fin0 : Q (.ref D) H2 := k D as ls cs H2 hD hy2 hP2 (hV.mono (by decide)) hV.nz hs2 b02
    have lenm : (c.2.map V.str).length = c.2.length := List.length_map ..
    walk_at "go"
    refine s_ixL (SqL.of hy2) (atI_nat (by rw [List.getElem?_map, f1]; rfl)) ?_
    refine s_gT (.inl (.inl f4)) rfl ?_
    walk_at "go"
    have tt : t = 0 ∨ t = 1 ∨ t = 2 ∨ t = 3 ∨ t = 4 ∨ t = 5 ∨ t = 6 ∨ t = 7 := by omega
    rcases tt with rfl | rfl | rfl | rfl | rfl | rfl | rfl | rfl
    · iterate 6 walk_at "skip"
      exact fin0
    · walk_at "take"
      refine s_lenL (SqL.of f5) ?_
      walk_at "go"
      refine iteD (fun h1 => ?_) fun h1 => ?_
      · walk_at "go"
        refine s_bm0 ?_
        walk_at "go"
        refine ⟨.inl ⟨rfl, _, SqL.of f5⟩, l, _, _, rfl, rfl, f5, List.getElem?_eq_getElem (by omega), ?_⟩
        iterate 5 walk_at "skip"
        rw [← List.map_dropLast]
        rw [lenm] at h1
        exact fin H2 _ hs2 But.refl (by rw [List.length_dropLast]; omega) (by rw [List.length_dropLast]; omega) (c3.last.mono (by decide))
      · walk_at "go"
        iterate 5 walk_at "skip"
        exact fin0
    · walk_at "skip"
      walk_at "take"
      refine s_lenL (SqL.of f5) ?_
      walk_at "go"
      refine iteD (fun h1 => ?_) fun h1 => ?_
      · walk_at "go"
        refine ⟨.inl ⟨rfl, _, SqL.of f5⟩, ?_⟩
        walk_at "go"
        refine ⟨l, _, _, rfl, rfl, f5, line_lt (by omega), ?_⟩
        iterate 4 walk_at "skip"
        rw [lenm] at h1
        have := fin H2 (c.2 ++ [Z9]) hs2 But.refl (by rw [List.length_append]; omega) (by rw [List.length_append]; show c.2.length + 1 ≤ 4; omega) ((c3.mono (by decide)).snoc z9_nm (z9_new c3))
        rw [List.map_append] at this
        exact this
      · walk_at "go"
        iterate 4 walk_at "skip"
        exact fin0
    · iterate 2 walk_at "skip"
      walk_at "take"
      refine s_bm0 ?_
      walk_at "go"
      refine ⟨.inl ⟨rfl, _, SqL.of f5⟩, l, _, rfl, rfl, f5, ?_⟩
      iterate 3 walk_at "skip"
      rw [← List.map_reverse]
      exact fin H2 _ hs2 But.refl (by rw [List.length_reverse]; omega) (by rw [List.length_reverse]; omega) (c3.rev.mono (by decide))
    · iterate 3 walk_at "skip"
      walk_at "take"
      refine s_bm0 ?_
      walk_at "go"
      refine ⟨.inl ⟨rfl, _, SqL.of hy2⟩, D, _, rfl, rfl, hy2, ?_⟩
      iterate 2 walk_at "skip"
      rw [← List.map_reverse]
      refine k D as.reverse ls.reverse cs.reverse _ hD upd_same (hP2.rev.upd (fun x hx => (ha x (List.mem_reverse.mp hx)).2) fun x hx => (hl x (List.mem_reverse.mp hx)).2) (hV.rev.mono (by decide)) hV.nz.rev ?_ fun x o ex hx => ?_
      · obtain ⟨x, y, z, e, sd⟩ := hs2
        exact ⟨x, y, z, by rw [upd_ne hDs.symm]; exact e, sd⟩
      · rw [upd_ne (ne_of_none ex hD)]; exact b02 x o ex hx
    · iterate 4 walk_at "skip"
      walk_at "take"
      refine s_lenL (SqL.of f5) ?_
      walk_at "go"
      refine ⟨s', _, rfl, hs2, by omega, by omega, fun r3 H3 r3a r3b hs3 b3 => ?_⟩
      obtain ⟨j3, rfl⟩ : ∃ j : Nat, r3 = (j : Int) := ⟨r3.toNat, by omega⟩
      refine s_setL (b3 _ _ f5 ls') (by omega) ?_
      iterate 1 walk_at "skip"
      have := fin H3 (c.2.set j3 Z9) hs3 b3 (by rw [List.length_set]; omega) (by rw [List.length_set]; omega) c3.set
      rw [List.map_set] at this
      exact this
    · iterate 5 walk_at "skip"
      walk_at "take"
      refine ⟨by show 2 ≤ sizeLine; decide, ?_⟩
      walk_at "new"; rename_i q nq H3 s3 e3
      walk_at "go"
      refine s_setL (s3 _ _ hy2) (by rw [List.length_map]; omega) ?_
      have qD : q ≠ D := (ne_of_none hy2 nq).symm
      rw [← List.map_set]
      walk_at "go"
      refine k D (as.set j q) ls (cs.set j (Z9, c.2)) _ hD upd_same (((hP2.mono s3).setA f2 f3 e3).upd (fun x hx => ?_) fun x hx => (hl x hx).2) (hV.name f3) (hV.nz.set (by show Z9 ≠ Z8; decide +kernel)) ?_ fun x o ex hx => ?_
      · rcases List.mem_or_eq_of_mem_set hx with h | h
        · exact (ha x h).2
        · rw [h]; exact qD
      · obtain ⟨x, y, z, e, sd⟩ := hs2.mono s3
        exact ⟨x, y, z, by rw [upd_ne hDs.symm]; exact e, sd⟩
      · rw [upd_ne (ne_of_none ex hD)]; exact s3 _ _ (b02 x o ex hx)
    · iterate 6 walk_at "skip"
      exact fin0
end

section
variable {P : Program} {w : World} {K : PySem.W.Frag} {mg : Str → Option Value} {base : Heap}
/-! ### cells as data -/
theorem eqv_strs : ∀ (zs ys : List Str), PyData.eqvAll (zs.map PyData.str) (ys.map PyData.str) = decide (zs = ys)
  | [], [] => by simp [PyData.eqvAll]
  | [], y :: ys => by simp [PyData.eqvAll]
  | x :: xs, [] => by simp [PyData.eqvAll]
  | x :: xs, y :: ys => by
    simp only [List.map_cons, PyData.eqvAll, eqv_strs xs ys, PyData.eqv]
    by_cases h : x = y <;> by_cases h' : xs = ys <;> simp [h, h']
def dPT (c : Ce) : PyData := .tuple [.str c.1, .tuple (c.2.map PyData.str)]
def dPL (c : Ce) : PyData := .tuple [.str c.1, .list (c.2.map PyData.str)]
theorem eqv_pt (c d : Ce) : PyData.eqv (dPT c) (dPT d) = decide (c = d) := by
  obtain ⟨c1, c2⟩ := c
  obtain ⟨d1, d2⟩ := d
  simp only [dPT, PyData.eqv, PyData.eqvAll, eqv_strs, Bool.and_true]
  by_cases h : c1 = d1 <;> by_cases h' : c2 = d2 <;> simp [h, h']
theorem eqv_pl (c d : Ce) : PyData.eqv (dPL c) (dPL d) = decide (c = d) := by
  obtain ⟨c1, c2⟩ := c
  obtain ⟨d1, d2⟩ := d
  simp only [dPL, PyData.eqv, PyData.eqvAll, eqv_strs, Bool.and_true]
  by_cases h : c1 = d1 <;> by_cases h' : c2 = d2 <;> simp [h, h']
theorem eqv_map (f : Ce → PyData) (hf : ∀ c d, PyData.eqv (f c) (f d) = decide (c = d)) : ∀ (cs ds : List Ce), PyData.eqvAll (cs.map f) (ds.map f) = decide (cs = ds)
  | [], [] => by simp [PyData.eqvAll]
  | [], y :: ys => by simp [PyData.eqvAll]
  | x :: xs, [] => by simp [PyData.eqvAll]
  | x :: xs, y :: ys => by
    simp only [List.map_cons, PyData.eqvAll, eqv_map f hf xs ys, hf]
    by_cases h : x = y <;> by_cases h' : xs = ys <;> simp [h, h']
theorem Nm.ok {k : Nat} {z : Str} (h : Nm k z) : Ok z := fun c hc => by
  have := h.2.2.2 c hc
  have all : LFS.cps.toList.all (fun c => decide (c < 0x110000)) = true := by decide +kernel
  exact of_decide_eq_true (List.all_eq_true.mp all c this)
theorem can_strs : ∀ {zs : List Str}, (∀ z ∈ zs, Ok z) → PyData.canLayAll0 (zs.map PyData.str) = true
  | [], _ => by simp [PyData.canLayAll0]
  | z :: zs, h => by simp [PyData.canLayAll0, PyData.canLay0, (h z (List.mem_cons_self ..)).to, can_strs fun y hy => h y (List.mem_cons_of_mem _ hy)]
theorem dep_strs : ∀ (zs : List Str), PyData.depthAll (zs.map PyData.str) ≤ 1
  | [] => by simp [PyData.depthAll]
  | z :: zs => by
    have := dep_strs zs
    simp [PyData.depthAll, PyData.depth] at this ⊢
    omega
theorem can_map (f : Ce → PyData) : ∀ {cs : List Ce}, (∀ c ∈ cs, (f c).canLay0 = true) → PyData.canLayAll0 (cs.map f) = true
  | [], _ => by simp [PyData.canLayAll0]
  | c :: cs, h => by simp [PyData.canLayAll0, h c (List.mem_cons_self ..), can_map f fun y hy => h y (List.mem_cons_of_mem _ hy)]
theorem dep_map (f : Ce → PyData) (n : Nat) : ∀ {cs : List Ce}, (∀ c ∈ cs, (f c).depth ≤ n) → PyData.depthAll (cs.map f) ≤ n
  | [], _ => by simp [PyData.depthAll]
  | c :: cs, h => by
    have := h c (List.mem_cons_self ..)
    have := dep_map f n (cs := cs) fun y hy => h y (List.mem_cons_of_mem _ hy)
    simp [PyData.depthAll] at this ⊢
    omega
theorem dep_pt (c : Ce) : (dPT c).depth ≤ 10 := by
  have := dep_strs c.2
  simp [dPT, PyData.depth, PyData.depthAll]
  omega
theorem dep_pl (c : Ce) : (dPL c).depth ≤ 10 := by
  have := dep_strs c.2
  simp [dPL, PyData.depth, PyData.depthAll]
  omega
theorem CsV.names {k : Nat} {cs : List Ce} (h : CsV k cs) {c : Ce} (hc : c ∈ cs) : Nm k c.1 := h.2.2.1.1 _ (List.mem_map.mpr ⟨c, hc, rfl⟩)
theorem can_pt {k : Nat} {cs : List Ce} (h : CsV k cs) {c : Ce} (hc : c ∈ cs) : (dPT c).canLay0 = true := by
  simp [dPT, PyData.canLay0, PyData.canLayAll0, (h.names hc).ok.to, can_strs fun z hz => ((h.2.2.2 c hc).2.2.1 z hz).ok]
theorem can_pl {k : Nat} {cs : List Ce} (h : CsV k cs) {c : Ce} (hc : c ∈ cs) : (dPL c).canLay0 = true := by
  simp [dPL, PyData.canLay0, PyData.canLayAll0, (h.names hc).ok.to, can_strs fun z hz => ((h.2.2.2 c hc).2.2.1 z hz).ok]
theorem shaped_t {k : Nat} {cs : List Ce} (h : CsV k cs) : SeqAt.shaped (.tuple (cs.map dPT)) = true := by
  have := dep_map dPT 10 (cs := cs) fun c _ => dep_pt c
  simp [SeqAt.shaped, PyData.canLay0, PyData.depth, can_map dPT fun c hc => can_pt h hc]
  omega
theorem shaped_l {k : Nat} {cs : List Ce} (h : CsV k cs) : SeqAt.shaped (.list (cs.map dPL)) = true := by
  have := dep_map dPL 10 (cs := cs) fun c _ => dep_pl c
  simp [SeqAt.shaped, PyData.canLay0, PyData.depth, can_map dPL fun c hc => can_pl h hc]
  omega
theorem shaped_s {zs : List Str} (h : ∀ z ∈ zs, Ok z) : SeqAt.shaped (.list (zs.map PyData.str)) = true := by
  have := dep_strs zs
  simp [SeqAt.shaped, PyData.canLay0, PyData.depth, can_strs h]
  omega
theorem shaped_st {zs : List Str} (h : ∀ z ∈ zs, Ok z) : SeqAt.shaped (.tuple (zs.map PyData.str)) = true := by
  have := dep_strs zs
  simp [SeqAt.shaped, PyData.canLay0, PyData.depth, can_strs h]
  omega
theorem dp_strs {H : Hp} : ∀ (zs : List Str), DpAll K H (zs.map V.str) (zs.map PyData.str)
  | [] => .nil
  | z :: zs => .cons (.str z) (dp_strs zs)
theorem dp_pairs {H : Hp} {f : Ce → PyData} {R : Addr → Ce → Hp → Prop} (hf : ∀ a c, R a c H → Dp K H (.ref a) (f c)) : ∀ {as : List Addr} {cs : List Ce}, AllAt R H as cs → DpAll K H (as.map V.ref) (cs.map f)
  | [], [], _ => .nil
  | [], _ :: _, h => nomatch h.1
  | _ :: _, [], h => nomatch h.1
  | a :: as, c :: cs, h => .cons (hf a c (h.2 0 a c rfl rfl)) (dp_pairs hf ⟨Nat.succ.inj h.1, fun i x y e1 e2 => h.2 (i + 1) x y e1 e2⟩)
theorem dp_pt {H : Hp} (a : Addr) (c : Ce) (h : PairT K a c H) : Dp K H (.ref a) (dPT c) := by
  obtain ⟨l, h1, h2⟩ := h
  exact .tup h1 (.cons (.str _) (.cons (.tup h2 (dp_strs _)) .nil))
theorem dp_pl {H : Hp} (a : Addr) (c : Ce) (h : PairL K a c H) : Dp K H (.ref a) (dPL c) := by
  obtain ⟨l, h1, h2⟩ := h
  exact .tup h1 (.cons (.str _) (.cons (.lst h2 (dp_strs _)) .nil))
/-! ### a board that may be made -/
theorem nodup_take {zs : List Str} (h : zs.Nodup) {j : Nat} {z : Str} (e : zs[j]? = some z) : z ∉ zs.take j := by
  intro m
  obtain ⟨i, hi, e2⟩ := List.mem_take_iff_getElem.mp m
  obtain ⟨hj, e⟩ := List.getElem?_eq_some_iff.mp e
  have := (List.getElem_inj h).mp (e2.trans e.symm)
  omega
theorem badNm_nms {k : Nat} {zs : List Str} (h : Nms k zs) (hk : k ≤ 10) : badNm zs = none := badNm_none (i := zs.length) (fun j z _ e => (h.1 z (List.mem_of_getElem? e)).is hk) (Nat.le_refl _)
theorem dupNm_nms {k : Nat} {zs : List Str} (h : Nms k zs) : dupNm zs = none := dupNm_none fun j z e => nodup_take h.2 e
theorem boardRf_ok {k : Nat} {cs : List Ce} (h : CsV k cs) (hk : k ≤ 10) : boardRf cs = none := by
  unfold boardRf
  rw [if_pos ⟨h.1, h.2.1⟩, findSome_no fun j c e => ?_]
  · simp only [dupNm_nms h.2.2.1, Option.map_none]
  · have hc := List.mem_of_getElem? e
    obtain ⟨h1, h2, h3⟩ := h.2.2.2 c hc
    unfold cellRf
    rw [if_pos ((h.names hc).is hk)]
    unfold valuesRf
    rw [if_pos ⟨h1, h2⟩, badNm_nms h3 hk]
    simp only [dupNm_nms h3, Option.map_none]
theorem cellsOk_v {k : Nat} {cs : List Ce} (h : CsV k cs) (hk : k ≤ 10) : CellsOk cs := ⟨by have := h.2.1; omega, fun c hc => ⟨by have := (h.names hc).2.1; omega, by have := (h.2.2.2 c hc).2.1; omega, fun z hz => by have := ((h.2.2.2 c hc).2.2.1 z hz).2.1; omega⟩⟩
end

section
variable {P : Program} {w : World} {K : PySem.W.Frag} {mg : Str → Option Value} {base : Heap}
def fst0 (c : Ce) : Str := c.2.headD ""
def sp_Board_first (K : PySem.W.Frag) : Sp := fun vs H Q _ => ∃ (x : Addr) (cs : List Ce), vs = [.ref x] ∧ BoardAt K x cs H ∧ cs.length ≤ 100000 ∧ (∀ c ∈ cs, 1 ≤ c.2.length) ∧ ∀ l H', H l = none → Same H H' → H' l = some (.tup ((cs.map fst0).map V.str)) → Q (.ref l) H'
theorem c_Board_first (T : Txt K mg) : Met P w K mg base CX0 1 (He.ga K "Board") "first" (sp_Board_first K) := by
  obtain ⟨fd, F⟩ := T.d_Board_first
  refine ⟨_, fd, _, T.cl_Board, T.mt_Board_first, F.ok (k := 0) sc_Board_first (fun vs H Q E h => by obtain ⟨_, _, rfl, _⟩ := h; rfl) (fun cdv A outer s H vs Q E hr h => ?_), F.bindsN fun _ _ _ _ _ _ us hl => match us, hl with | [_], _ => rfl⟩
  obtain ⟨x, cs, rfl, ⟨dx, t, as, hx, ht, hA⟩, hl, hc, k⟩ := h
  refine ⟨_, PSs.nox (pss_one (ps_ret (pe_callTy (oTuple K) (by rfl) T.n_tuple (by decide +kernel) (pa_cons (pe_lc (own := [("_", 1), ("values", 2)]) rfl sc_Board_first.nd (oIt K (oFld K (pv 0))) (blkOk_by (N := ["self", "_", "values"]) (sc := defScope s_Board_first) (by decide +kernel)) (fun _ _ _ _ _ => (oTup K (n := 2) rfl (pgs_cons (pg_name (i := 1) sc_Board_first.nd rfl (.inl rfl)) (pgs_cons (pg_name (i := 2) sc_Board_first.nd rfl (.inl rfl)) pgs_nil)))) (fun _ _ _ _ _ => pts_nil) (fun _ _ _ _ _ => (pe_ix (oIx K) (pv 2) pe_int (fun _ _ => rfl)))) pa_nil)))), ?_⟩
  walk_at "go"
  refine s_itT ?_
  walk_at "go"
  refine ⟨x, _, dx, _, _, rfl, hx, T.cl_Board, T.na_Board__cells, lk1, t, rfl, ⟨_, ht⟩, lc_all (still_tup ht) (fun _ i y _ => ∃ z, (cs.map fst0)[i]? = some z ∧ y = .str z) (by rw [List.length_map, hA.1]; omega) (fun _ _ _ _ _ _ q => q) (fun D i y acc H3 _ _ hy s3 _ Q' k' => ?_) (fun D ys H3 hD s3 hy hyl hyr => ?_) (tg_mono (tgc_mono (tgc_mono tgn_mono)))⟩
  · obtain ⟨r, c, er, rfl, ec, l, hr1, hr2⟩ := hA.get hy
    refine s_gT (same_t s3 hr1) rfl ?_
    walk_at "go"
    refine ⟨rfl, ?_⟩
    walk_at "go"
    obtain ⟨v, r', ev⟩ : ∃ v r', c.2 = v :: r' := by
      have := hc c (List.mem_of_getElem? ec)
      match q : c.2, this with
      | v :: r', _ => exact ⟨v, r', rfl⟩
    refine s_ixT (v := .str v) (same_t s3 hr2) (by rw [ev]; exact atI0) ?_
    exact k' _ _ (Same.refl _) ⟨v, by rw [List.getElem?_map, ec]; simp [fst0, ev], rfl⟩
  · have ey : ys = (cs.map fst0).map V.str := ge_map (by rw [hyl, List.length_map, List.length_map, hA.1]) hyr
    rw [ey] at hy
    walk_at "go"
    refine s_tupL (SqL.of hy) fun t' ht' => ?_
    exact k t' _ (s3.free ht') (s3.trans (same_new ht')) upd_same
def sp_Board_eq (K : PySem.W.Frag) : Sp := fun vs H Q _ => ∃ (x : Addr) (cs : List Ce) (y : V), vs = [.ref x, y] ∧ BoardAt K x cs H ∧ CsV 9 cs ∧ (((∃ z, y = .str z) ∧ Q (.bl false) H) ∨ ∃ (x2 : Addr) (cs2 : List Ce), y = .ref x2 ∧ BoardAt K x2 cs2 H ∧ CsV 9 cs2 ∧ Q (.bl (decide (cs = cs2))) H)
theorem e_Board (T : Txt K mg) : OwnE P w K mg base CX0 1 (He.ga K "Board") (sp_Board_eq K) := by
  obtain ⟨fd, F⟩ := T.d_Board_eq
  refine ⟨_, fd, _, F.ok (k := 0) sc_Board_eq (fun vs H Q E h => by obtain ⟨_, _, _, rfl, _⟩ := h; rfl) (fun cdv A outer s H vs Q E hr h => ?_), T.qe_Board, T.qf_Board, F.bindsN fun _ _ _ _ _ _ us hl => match us, hl with | [_, _], _ => rfl, T.qn_Board, T.qm_Board, T.qs_Board⟩
  obtain ⟨x, cs, y, rfl, ⟨dx, t, as, hx, ht, hA⟩, hV, h⟩ := h
  refine ⟨_, PSs.nox (pss_one (ps_ret (pe_and (pe_callB (oIsi K) (by rfl) T.n_isinstance (by decide +kernel) (pa_cons (pv 1) (pa_cons (C8.pe_gc (v := .ref (He.ga K "Board")) rfl ⟨_, T.g_Board, rfl⟩) pa_nil))) (pe_one (pe_cmpR (oEq K hr.units) (oFld K (pv 0)) (oFld K (pv 1)) (nomark _)))))), ?_⟩
  walk_at "go"
  rcases h with ⟨⟨z, rfl⟩, q⟩ | ⟨x2, cs2, rfl, ⟨dx2, t2, as2, hx2, ht2, hA2⟩, hV2, q⟩
  · refine ⟨_, _, _, _, false, rfl, .own _, .base (.str z), T.qj_Board, ?_⟩
    walk_at "go"
    exact q
  · refine ⟨_, _, _, _, true, rfl, .own _, .base (.ins hx2 T.cl_Board T.qc_Board T.qg_Board T.qt_Board T.qm_Board), T.qi_Board, ?_⟩
    walk_at "go"
    refine ⟨x, _, dx, _, _, rfl, hx, T.cl_Board, T.na_Board__cells, lk1, ?_⟩
    walk_at "go"
    refine ⟨x2, _, dx2, _, _, rfl, hx2, T.cl_Board, T.na_Board__cells, lk1, ?_⟩
    refine s_eqD (.tup ht (dp_pairs dp_pt hA)) (.tup ht2 (dp_pairs dp_pt hA2)) (shaped_t hV) (shaped_t hV2) ?_
    rw [show PyData.eqv (.tuple (cs.map dPT)) (.tuple (cs2.map dPT)) = decide (cs = cs2) by rw [← eqv_map dPT eqv_pt]; simp [PyData.eqv]]
    exact q
def sp_l_no_cell (K : PySem.W.Frag) : Sp := fun vs H Q _ => ∃ (x : Addr) (cs : List Ce) (n : Str), vs = [.ref x, .str n] ∧ BoardAt K x cs H ∧ cs.length ≤ 100000 ∧ cellOf cs n = none ∧ ∀ H', Same H H' → Q (.bl true) H'
theorem c_l_no_cell (T : Txt K mg) : Cal P w K mg base CX0 4 "_law_no_cell" (sp_l_no_cell K) := by
  obtain ⟨fd, F⟩ := T.d_l_no_cell
  refine ⟨_, fd, _, F.ok (k := 3) sc_l_no_cell (fun vs H Q E h => by obtain ⟨_, _, _, rfl, _⟩ := h; rfl) (fun cdv A outer s H vs Q E hr h => ?_), T.g_l_no_cell, F.kp, F.bindsN fun _ _ _ _ _ _ us hl => match us, hl with | [_, _], _ => rfl⟩
  obtain ⟨x, cs, n, rfl, hB, hl, hn, k⟩ := h
  refine ⟨_, PSs.nox (pss_cons (ps_set (i := 2) sc_l_no_cell.nd rfl (.inl rfl) pe_bl)
      (pss_cons (ps_try_as (i := 3) rfl rfl sc_l_no_cell.nd rfl rfl ⟨rfl, by decide, Or.inl T.g_NoCell⟩ takes0
        (fun W pn xe tk PO => (pss_one (ps_expr (pe_m (c_Board_values_of T) hr (by first | decide | omega) (atW tk) (pv 0) (pa_cons (pv 1) pa_nil)))))
        (fun a oe cls d pn hz hf => (pss_one (ps_set (i := 2) sc_l_no_cell.nd rfl (.inl rfl) (pe_and (pe_cmpR (oEq K hr.units) (pe_xA hz hf (pv 3)) (pv 1) (nomark _)) (pe_one (pe_callB (call_isX hz hf) (by rfl) T.n_isinstance (by decide +kernel) (pa_cons (pv 3) (pa_cons (C8.pe_gc (v := .ref (He.ga K "BoardError")) rfl ⟨_, T.g_BoardError, rfl⟩) pa_nil)))))))))
      (pss_one (ps_ret (pv 2))))), ?_⟩
  have ⟨dx, t, as, hx, _⟩ := hB
  walk_at "go"
  refine ⟨x, dx, _, rfl, hx, rfl, ?_⟩
  walk_at "go"
  refine ⟨x, cs, n, rfl, hB, hl, fun _ d H1 hd s1 e1 => ?_, fun c hc => by rw [hn] at hc; cases hc⟩
  refine ⟨true, T.em_NoCell_NoCell, fun _ a ha => ?_, fun q => nomatch q⟩
  walk_at "go"
  refine ⟨_, T.x_NoCell, T.na_NoCell_name, _, rfl, rfl, rfl, d, _, .str n, rfl, e1, lk1, ?_⟩
  walk_at "go"
  refine s_eq rfl ?_
  walk_at "go"
  refine iteDT rfl ?_
  walk_at "go"
  refine ⟨_, d, _, _, _, true, rfl, rfl, e1, T.x_NoCell, rfl, fun _ h => h, T.ki_NoCell_BoardError, ?_⟩
  walk_at "go"
  exact k _ s1
end

section
variable {P : Program} {w : World} {K : PySem.W.Frag} {mg : Str → Option Value} {base : Heap}
theorem cellOf_at {k : Nat} {cs : List Ce} (h : CsV k cs) {i : Nat} {c : Ce} (e : cs[i]? = some c) : cellOf cs c.1 = some c := by
  refine find_at (fun j d hj ed => decide_eq_false fun q => ?_) e (decide_eq_true rfl)
  have e1 : (cs.map (·.1))[i]? = some c.1 := by rw [List.getElem?_map, e]; rfl
  have e2 : (cs.map (·.1))[j]? = some c.1 := by rw [List.getElem?_map, ed]; exact congrArg some q
  obtain ⟨h1, e1⟩ := List.getElem?_eq_some_iff.mp e1
  obtain ⟨h2, e2⟩ := List.getElem?_eq_some_iff.mp e2
  have := (List.getElem_inj h.2.2.1.2).mp (e1.trans e2.symm)
  omega
theorem cellOf_no {cs : List Ce} {n : Str} (h : ∀ c ∈ cs, c.1 ≠ n) : cellOf cs n = none := List.find?_eq_none.mpr fun c hc => by simpa using h c hc
theorem CsV.ne0 {k : Nat} {cs : List Ce} (h : CsV k cs) : ∀ c ∈ cs, c.1 ≠ "" := fun c hc e => by
  have := (h.names hc).1
  rw [e] at this
  exact absurd this (by decide +kernel)
def sp_l_right (K : PySem.W.Frag) : Sp := fun vs H Q _ => ∃ (x p : Addr) (as ls : List Addr) (cs : List Ce), vs = [.ref x, .ref p] ∧ BoardAt K x cs H ∧ H p = some (.lst (as.map V.ref)) ∧ PairsAt H as ls cs ∧ CsV 9 cs ∧ Nz8 cs ∧ ∀ H', Same H H' → Q (.bl true) H'
theorem c_l_right (T : Txt K mg) : Cal P w K mg base CX0 5 "_law_right" (sp_l_right K) := by
  obtain ⟨fd, F⟩ := T.d_l_right
  refine ⟨_, fd, _, F.ok (k := 4) sc_l_right (fun vs H Q E h => by obtain ⟨_, _, _, _, _, rfl, _⟩ := h; rfl) (fun cdv A outer s H vs Q E hr h => ?_), T.g_l_right, F.kp, F.bindsN fun _ _ _ _ _ _ us hl => match us, hl with | [_, _], _ => rfl⟩
  obtain ⟨x, p, as, ls, cs, rfl, hB, hp, hP, hV, hz, k⟩ := h
  refine ⟨_, PSs.nox (pss_cons (ps_if (pt_cmpR (oNe K hr.units) (pe_m0 (c_Board_cells T) hr (by first | decide | omega) at0 (pv 0)) (pe_lc (own := [("_law_name_here", 2), ("_law_values", 3)]) rfl sc_l_right.nd (oIt K (pv 1)) (blkOk_by (N := ["_law_board", "_law_cells_here", "_law_name_here", "_law_values", "_law_told"]) (sc := defScope s_l_right) (by decide +kernel)) (fun _ _ _ _ _ => (oTup K (n := 2) rfl (pgs_cons (pg_name (i := 2) sc_l_right.nd rfl (.inl rfl)) (pgs_cons (pg_name (i := 3) sc_l_right.nd rfl (.inl rfl)) pgs_nil)))) (fun _ _ _ _ _ => pts_nil) (fun _ _ _ _ _ => (pv 2))) (nomark _))
        (pss_one (ps_ret pe_bl))
        pss_nil)
      (pss_cons (ps_if (pt_cmpR (oNe K hr.units) (pe_m0 (c_Board_first T) hr (by first | decide | omega) at0 (pv 0)) (pe_callTy (oTuple K) (by rfl) T.n_tuple (by decide +kernel) (pa_cons (pe_lc (own := [("_law_name_here", 2), ("_law_values", 3)]) rfl sc_l_right.nd (oIt K (pv 1)) (blkOk_by (N := ["_law_board", "_law_cells_here", "_law_name_here", "_law_values", "_law_told"]) (sc := defScope s_l_right) (by decide +kernel)) (fun _ _ _ _ _ => (oTup K (n := 2) rfl (pgs_cons (pg_name (i := 2) sc_l_right.nd rfl (.inl rfl)) (pgs_cons (pg_name (i := 3) sc_l_right.nd rfl (.inl rfl)) pgs_nil)))) (fun _ _ _ _ _ => pts_nil) (fun _ _ _ _ _ => (pe_ix (oIx K) (pv 3) pe_int (fun _ _ => rfl)))) pa_nil)) (nomark _))
        (pss_one (ps_ret pe_bl))
        pss_nil)
      (pss_cons (ps_for PassesOwn.never rfl (oIt K (pv 1)) (oTup K (n := 2) rfl (pgs_cons (pg_name (i := 2) sc_l_right.nd rfl (.inl rfl)) (pgs_cons (pg_name (i := 3) sc_l_right.nd rfl (.inl rfl)) pgs_nil)))
        (pss_cons (ps_set (i := 4) sc_l_right.nd rfl (.inl rfl) (pe_m (c_Board_values_of T) hr (by first | decide | omega) atL (pv 0) (pa_cons (pv 2) pa_nil)))
        (pss_cons (ps_if (pt_cmpR (oNe K hr.units) (pv 4) (pv 3) (nomark _))
          (pss_one (ps_ret pe_bl))
          pss_nil)
        (pss_one (ps_expr (pe_bm PySem.F.plainAttrs_list PySem.F.slot_list_append PySem.F.type_list_append mt_append (pv 4) (pa_cons pe_str pa_nil)))))))
      (pss_cons (ps_expr (pe_bm0 PySem.F.plainAttrs_list PySem.F.slot_list_reverse PySem.F.type_list_reverse mt_reverse (pe_m0 (c_Board_cells T) hr (by first | decide | omega) at0 (pv 0))))
      (pss_one (ps_ret (pe_and (pe_c (c_l_no_cell T) hr (by first | decide | omega) at0 rfl (pa_cons (pv 0) (pa_cons pe_str pa_nil))) (pe_one (pe_c (c_l_no_cell T) hr (by first | decide | omega) at0 rfl (pa_cons (pv 0) (pa_cons pe_str pa_nil))))))))))), ?_⟩
  have ⟨dx, t, bs, hx, _⟩ := hB
  have hl3 := hV.2.1
  have okn : ∀ z ∈ cs.map (·.1), Ok z := fun z hz => (hV.2.2.1.1 z hz).ok
  walk_at "go"
  refine ⟨x, dx, _, rfl, hx, rfl, ?_⟩
  refine ⟨x, cs, rfl, hB, by omega, fun l1 H1 n1 s1 e1 => ?_⟩
  walk_at "go"
  refine s_itL ?_
  walk_at "go"
  refine ⟨p, rfl, ⟨_, SqL.of (s1 _ _ hp)⟩, lc_all (still_list (SqL.of (s1 _ _ hp))) (fun _ i y _ => ∃ z, (cs.map (·.1))[i]? = some z ∧ y = .str z) (by rw [List.length_map, hP.1]; omega) (fun _ _ _ _ _ _ q => q) (fun D i y acc H3 _ hi hy s3 _ Q' k' => ?_) (fun D ys H3 hD s3 hy hyl hyr => ?_) (tg_mono (tgc_mono (tgc_mono tgn_mono)))⟩
  · rw [List.length_map, hP.1] at hi
    obtain ⟨a, l, c, f1, f2, f3, f4, f5⟩ := hP.get hi
    rw [List.getElem?_map, f1] at hy
    cases hy
    refine s_gT (.inl (.inl (s3 _ _ (s1 _ _ f4)))) rfl ?_
    walk_at "go"
    refine ⟨rfl, ?_⟩
    walk_at "go"
    exact k' _ _ (Same.refl _) ⟨c.1, by rw [List.getElem?_map, f3]; rfl, rfl⟩
  have ey : ys = (cs.map (·.1)).map V.str := ge_map (by rw [hyl, List.length_map, List.length_map, hP.1]) hyr
  rw [ey] at hy
  refine s_neD (.lst (SqL.of (s3 _ _ e1)) (dp_strs _)) (.lst (SqL.of hy) (dp_strs _)) (shaped_s okn) (shaped_s okn) ?_
  rw [show PyData.eqv (.list ((cs.map (·.1)).map PyData.str)) (.list ((cs.map (·.1)).map PyData.str)) = true by simp only [PyData.eqv, eqv_strs, decide_true]]
  walk_at "go"
  have s03 := s1.trans s3
  refine ⟨x, dx, _, rfl, s03 _ _ hx, rfl, ?_⟩
  refine ⟨x, cs, rfl, hB.mono s03, by omega, fun c hc => by have := (hV.2.2.2 c hc).1; omega, fun l4 H4 n4 s4 e4 => ?_⟩
  have s04 := s03.trans s4
  walk_at "go"
  refine s_itL ?_
  walk_at "go"
  refine ⟨p, rfl, ⟨_, SqL.of (s04 _ _ hp)⟩, lc_all (still_list (SqL.of (s04 _ _ hp))) (fun _ i y _ => ∃ z, (cs.map fst0)[i]? = some z ∧ y = .str z) (by rw [List.length_map, hP.1]; omega) (fun _ _ _ _ _ _ q => q) (fun D i y acc H5 _ hi hy s5 _ Q' k' => ?_) (fun D ys H5 hD s5 hy hyl hyr => ?_) (tg_mono (tgc_mono (tgc_mono tgn_mono)))⟩
  · rw [List.length_map, hP.1] at hi
    obtain ⟨a, l, c, f1, f2, f3, f4, f5⟩ := hP.get hi
    rw [List.getElem?_map, f1] at hy
    cases hy
    have s05 := s04.trans s5
    refine s_gT (.inl (.inl (s05 _ _ f4))) rfl ?_
    walk_at "go"
    refine ⟨rfl, ?_⟩
    walk_at "go"
    obtain ⟨v, r', ev⟩ : ∃ v r', c.2 = v :: r' := by
      have := (hV.2.2.2 c (List.mem_of_getElem? f3)).1
      match q : c.2, this with
      | v :: r', _ => exact ⟨v, r', rfl⟩
    refine s_ixL (v := .str v) (SqL.of (s05 _ _ f5)) (by rw [ev]; exact atI0) ?_
    exact k' _ _ (Same.refl _) ⟨v, by rw [List.getElem?_map, f3]; simp [fst0, ev], rfl⟩
  have ey : ys = (cs.map fst0).map V.str := ge_map (by rw [hyl, List.length_map, List.length_map, hP.1]) hyr
  rw [ey] at hy
  have okf : ∀ z ∈ cs.map fst0, Ok z := fun z hz => by
    obtain ⟨c, hc, rfl⟩ := List.mem_map.mp hz
    obtain ⟨q1, _, q2⟩ := hV.2.2.2 c hc
    match q : c.2, q1 with
    | v :: r', _ =>
      have := (q2.1 v (by rw [q]; exact List.mem_cons_self ..)).ok
      simpa [fst0, q] using this
  walk_at "go"
  refine s_tupL (SqL.of hy) ?_
  walk_at "new"; rename_i l6 n6 H6 s6 e6
  have s46 := s5.trans s6
  refine s_neD (.tup (.inl (.inl (s46 _ _ e4))) (dp_strs _)) (.tup (.inl (.inl e6)) (dp_strs _)) (shaped_st okf) (shaped_st okf) ?_
  rw [show PyData.eqv (.tuple ((cs.map fst0).map PyData.str)) (.tuple ((cs.map fst0).map PyData.str)) = true by simp only [PyData.eqv, eqv_strs, decide_true]]
  walk_at "go"
  have s06 := s04.trans s46
  refine s_itL ?_
  walk_at "go"
  refine ⟨p, rfl, ⟨_, SqL.of (s06 _ _ hp)⟩, for_all (still_list (SqL.of (s06 _ _ hp))) (fun i σ _ => ∃ u v z, σ = [some (.ref x), some (.ref p), u, v, z]) (fun _ _ _ _ _ q => q) ⟨_, _, _, rfl⟩ (fun i y σ' H7 hi hy s7 hp7 => ?_) fun σ' H7 s7 hp7 => ?_⟩
  · obtain ⟨u, v, z, rfl⟩ := hp7
    rw [List.length_map, hP.1] at hi
    obtain ⟨a, l, c, f1, f2, f3, f4, f5⟩ := hP.get hi
    rw [List.getElem?_map, f1] at hy
    cases hy
    have s07 := s06.trans s7
    refine s_gT (.inl (.inl (s07 _ _ f4))) rfl ?_
    walk_at "go"
    refine ⟨x, dx, _, rfl, s07 _ _ hx, rfl, ?_⟩
    walk_at "go"
    refine ⟨x, cs, c.1, rfl, hB.mono s07, by omega, fun q => (by rw [cellOf_at hV f3] at q; cases q), fun c' hc' l8 H8 n8 s8 e8 => ?_⟩
    rw [cellOf_at hV f3] at hc'
    cases hc'
    walk_at "go"
    have s08 := s07.trans s8
    have okv : ∀ z ∈ c.2, Ok z := fun z hz => ((hV.2.2.2 c (List.mem_of_getElem? f3)).2.2.1 z hz).ok
    have := (hV.2.2.2 c (List.mem_of_getElem? f3)).2.1
    refine s_neD (.lst (SqL.of e8) (dp_strs _)) (.lst (SqL.of (s08 _ _ f5)) (dp_strs _)) (shaped_s okv) (shaped_s okv) ?_
    rw [show PyData.eqv (.list (c.2.map PyData.str)) (.list (c.2.map PyData.str)) = true by simp only [PyData.eqv, eqv_strs, decide_true]]
    walk_at "go"
    refine ⟨.inl ⟨rfl, _, SqL.of e8⟩, ?_⟩
    walk_at "go"
    refine ⟨l8, _, _, rfl, rfl, e8, line_lt (by rw [List.length_map]; omega), ?_⟩
    exact ⟨(s7.trans (same_mut s8 n8)), _, _, _, rfl⟩
  · obtain ⟨u, v, z, rfl⟩ := hp7
    have s07 := s06.trans s7
    walk_at "go"
    refine s_bm0 ?_
    walk_at "go"
    refine ⟨x, dx, _, rfl, s07 _ _ hx, rfl, ?_⟩
    refine ⟨x, cs, rfl, hB.mono s07, by omega, fun l8 H8 n8 s8 e8 => ?_⟩
    refine ⟨.inl ⟨rfl, _, SqL.of e8⟩, l8, _, rfl, rfl, e8, ?_⟩
    have s9 : Same H7 (upd H8 l8 (.lst ((cs.map (·.1)).map V.str).reverse)) := same_mut s8 n8
    have s09 := s07.trans s9
    walk_at "go"
    refine ⟨x, cs, _, rfl, hB.mono s09, by omega, cellOf_no hz, fun H10 s10 => ?_⟩
    walk_at "go"
    have s10' := s09.trans s10
    refine ⟨x, cs, _, rfl, hB.mono s10', by omega, cellOf_no hV.ne0, fun H11 s11 => ?_⟩
    exact k _ (s10'.trans s11)
end

section
variable {P : Program} {w : World} {K : PySem.W.Frag} {mg : Str → Option Value} {base : Heap}
def spLaw (K : PySem.W.Frag) : Sp := fun vs H Q _ => ∃ (a : Addr) (ns : List Int), vs = [.ref a] ∧ SqL K H a (ns.map V.int) ∧ ns.length ≤ 63 ∧ ∀ H', Q (.bl true) H'
/-- what is no list stays -/
theorem sqT_to {H H' : Hp} {a : Addr} {xs : List V} (h : SqT K H a xs) (m : ∀ b o, H b = some o → (∀ ys, o ≠ .lst ys) → H' b = some o) : SqT K H' a xs := by
  rcases h with (h | ⟨o, h⟩) | h
  · exact .inl (.inl (m _ _ h fun ys e => by cases e))
  · exact .inl (.inr ⟨o, m _ _ h fun ys e => by cases e⟩)
  · exact .inr h
theorem BoardAt.to {x : Addr} {cs : List Ce} {H H' : Hp} (h : BoardAt K x cs H) (m : ∀ b o, H b = some o → (∀ ys, o ≠ .lst ys) → H' b = some o) : BoardAt K x cs H' := by
  obtain ⟨dx, t, as, h1, h2, h3⟩ := h
  exact ⟨dx, t, as, m _ _ h1 fun ys e => (by cases e), sqT_to h2 m, h3.mono fun a c ⟨l, q1, q2⟩ => ⟨l, sqT_to q1 m, sqT_to q2 m⟩⟩
theorem iteSame {b : Bool} {A : Prop} (h : A) : if b = true then A else A := by split <;> exact h
theorem ok_law (T : Txt K mg) {fd : FuncData} (F : FunD K "law" "law" (defArgs s_law) (defBody s_law) (defScope s_law) [] [] (He.fAd K ("law", none)) fd) : FnOk P w K mg base CX0 10 (He.fAd K ("law", none)) fd ["_law_script"] (spLaw K) := by
  refine F.ok (k := 9) sc_law (fun vs H Q E h => by obtain ⟨_, _, rfl, _⟩ := h; rfl) (fun cdv A outer s H vs Q E hr h => ?_)
  obtain ⟨a, ns, rfl, hS, hl, k⟩ := h
  refine ⟨_, PSs.nox (pss_cons (ps_for PassesOwn.never rfl (oIt K (pe_slice (oSl K) (pe_op (oAdd K) (pv 0) (pe_lst (pa_cons pe_int pa_nil))) po_none (po_some pe_int))) (pg_name (i := 1) sc_law.nd rfl (.inl rfl))
        (pss_cons (ps_set (i := 2) sc_law.nd rfl (.inl rfl) (pe_c (c_l_state T) hr (by first | decide | omega) at0 rfl (pa_cons (pv 1) pa_nil)))
        (pss_cons (ps_set (i := 3) sc_law.nd rfl (.inl rfl) (pe_c (c_l_digit T) hr (by first | decide | omega) at0 rfl (pa_cons (pv 2) (pa_cons pe_int pa_nil))))
        (pss_cons (ps_set (i := 4) sc_law.nd rfl (.inl rfl) (pe_c (c_l_cells T) hr (by first | decide | omega) at0 rfl (pa_cons (pv 2) pa_nil)))
        (pss_cons (ps_set (i := 5) sc_law.nd rfl (.inl rfl) (pe_c (c_l_other T) hr (by first | decide | omega) at0 rfl (pa_cons (pv 2) (pa_cons (pv 4) (pa_cons (pv 3) pa_nil)))))
        (pss_cons (ps_setLc (i := 8) (own := [("_law_name_here", 6), ("_law_values", 7)]) rfl sc_law.nd rfl rfl (sw_true rfl rfl rfl (by decide +kernel)) (oIt K (pv 4)) (blkOk_by (N := ["_law_script", "_law_number", "_law_s", "_law_turn0", "_law_cells_here", "_law_others", "_law_name_here", "_law_values", "_law_handed", "_law_board", "_law_other_here"]) (sc := defScope s_law) (by decide +kernel)) (fun _ _ _ _ _ => (oTup K (n := 2) rfl (pgs_cons (pg_name (i := 6) sc_law.nd rfl (.inl rfl)) (pgs_cons (pg_name (i := 7) sc_law.nd rfl (.inl rfl)) pgs_nil)))) (fun _ _ _ _ _ => pts_nil) (fun _ _ _ _ _ => (pe_tup (pa_cons (pv 6) (pa_cons (pe_callTy (oList K) (by rfl) T.n_list (by decide +kernel) (pa_cons (pv 7) pa_nil)) pa_nil)))))
        (pss_cons (ps_set (i := 9) sc_law.nd rfl (.inl rfl) (pe_mk (mk_Board T) hr (by first | decide | omega) atL rfl (pa_cons (pv 8) pa_nil)))
        (pss_cons (ps_set (i := 10) sc_law.nd rfl (.inl rfl) (pe_mk (mk_Board T) hr (by first | decide | omega) atL rfl (pa_cons (pv 5) pa_nil)))
        (pss_cons (ps_for PassesOwn.never rfl (oIt K (pv 8)) (oTup K (n := 2) rfl (pgs_cons (pg_name (i := 6) sc_law.nd rfl (.inl rfl)) (pgs_cons (pg_name (i := 7) sc_law.nd rfl (.inl rfl)) pgs_nil)))
          (pss_one (ps_expr (pe_bm PySem.F.plainAttrs_list PySem.F.slot_list_append PySem.F.type_list_append mt_append (pv 7) (pa_cons pe_str pa_nil)))))
        (pss_cons (ps_expr (pe_bm PySem.F.plainAttrs_list PySem.F.slot_list_append PySem.F.type_list_append mt_append (pv 8) (pa_cons (pe_tup (pa_cons pe_str (pa_cons (pe_lst (pa_cons pe_str (pa_cons pe_str pa_nil))) pa_nil))) pa_nil)))
        (pss_cons (ps_if (PW.pt (pw_or (pt_cmpR (oNe K hr.units) (pe_cmpR (op_ownEq (E := E0) (e_Board T) hr (by first | decide | omega)) (pv 9) (pv 10) (nomark _)) (pe_cmpR (oEq K hr.units) (pv 4) (pv 5) (nomark _)) (nomark _)) (pw_or1 (pt_cmpR (oNe K hr.units) (pe_cmpR (op_ownEq (E := E0) (e_Board T) hr (by first | decide | omega)) (pv 10) (pv 9) (nomark _)) (pe_cmpR (oEq K hr.units) (pv 4) (pv 5) (nomark _)) (nomark _)))))
          (pss_one (ps_ret pe_bl))
          pss_nil)
        (pss_cons (ps_if (PW.pt (pw_or (pt_cmpR (oEq K hr.units) (pe_cmpR (op_ownNe (E := E0) (e_Board T) hr (by first | decide | omega)) (pv 9) (pv 10) (nomark _)) (pe_cmpR (oEq K hr.units) (pv 4) (pv 5) (nomark _)) (nomark _)) (pw_or1 (pt_cmpR (op_ownEq (E := E0) (e_Board T) hr (by first | decide | omega)) (pv 9) pe_str (nomark _)))))
          (pss_one (ps_ret pe_bl))
          pss_nil)
        (pss_one (ps_if (PW.pt (pw_or (pt_not (pt_val (pe_c (c_l_right T) hr (by first | decide | omega) at0 rfl (pa_cons (pv 9) (pa_cons (pv 4) pa_nil))))) (pw_or (pt_not (pt_val (pe_c (c_l_right T) hr (by first | decide | omega) at0 rfl (pa_cons (pv 10) (pa_cons (pv 5) pa_nil))))) (pw_or1 (pt_not (pt_val (pe_c (c_l_right T) hr (by first | decide | omega) at0 rfl (pa_cons (pv 9) (pa_cons (pv 4) pa_nil)))))))))
          (pss_one (ps_ret pe_bl))
          pss_nil))))))))))))))
      (pss_one (ps_ret pe_bl))), ?_⟩
  (try walk_at "go")
  refine s_itL ?_
  (try walk_at "go")
  refine ⟨by show 1 ≤ sizeLine; decide, ?_⟩
  walk_at "new"; rename_i p1 n1 H1 s1 e1
  (try walk_at "go")
  refine s_addL (s1.seq hS) (SqL.of e1) (line_of (by rw [List.length_map]; show ns.length + 1 ≤ 100000; omega)) ?_
  walk_at "new"; rename_i p2 n2 H2 s2 e2
  (try walk_at "go")
  refine s_slL (SqL.of e2) ?_
  walk_at "new"; rename_i p3 n3 H3 s3 e3
  have allI : ∀ x ∈ cutV (ns.map V.int ++ [V.int 0]) none (some 20), ∃ n, x = V.int n := fun x hx => by
    have hx' : x ∈ ns.map V.int ++ [V.int 0] := List.mem_of_mem_drop (List.mem_of_mem_take hx)
    rcases List.mem_append.mp hx' with h | h
    · obtain ⟨n, _, rfl⟩ := List.mem_map.mp h; exact ⟨n, rfl⟩
    · exact ⟨0, List.mem_singleton.mp h⟩
  refine ⟨p3, rfl, ⟨_, SqL.of e3⟩, for_all (still_list (SqL.of e3)) (fun i σ _ => ∃ v1 v2 v3 v4 v5 v6 v7 v8 v9 v10, σ = [some (.ref a), v1, v2, v3, v4, v5, v6, v7, v8, v9, v10]) (fun _ _ _ _ _ q => q) ⟨_, _, _, _, _, _, _, _, _, _, rfl⟩ (fun i x σ' H0 hi hx s0 hp => ?_) fun σ' H' s4 hp => ?_⟩
  · obtain ⟨v1, v2, v3, v4, v5, v6, v7, v8, v9, v10, rfl⟩ := hp
    obtain ⟨n, rfl⟩ := allI x (List.mem_of_getElem? hx)
    clear s1 s2 e1 e2 n1 n2 n3
    (try walk_at "go")
    refine ⟨n, rfl, fun sd HA nA sA dA => ?_⟩
    (try walk_at "go")
    refine ⟨sd, 8, rfl, dA, by decide, by decide, fun t HB ta tb dB bB => ?_⟩
    (try walk_at "go")
    refine ⟨sd, rfl, dB, fun p as ls cs HC nC eC pC vC dC bC => ?_⟩
    (try walk_at "go")
    refine ⟨sd, p, t, as, ls, cs, rfl, dC, eC, pC, vC, ta, tb, fun q as' ls' cs' HD nD eD pD vD zD dD bD => ?_⟩
    have sdp : p ≠ sd := (SdAt.ne dB nC).symm
    have eDp := bD _ _ eC sdp
    have pDp := pC.but dC bD
    have s0D : Same H0 HD := (But.same sA nA (((bB.trans bC)).trans bD))
    clear bB bC bD dA dB dC nA sA nC
    have hcs := vC.2.1
    (try walk_at "go")
    refine s_itL ?_
    (try walk_at "go")
    refine ⟨p, rfl, ⟨_, SqL.of eDp⟩, lc_inv (still_list (SqL.of eDp)) (CopyI HD cs) (by rw [List.length_map, pDp.1]; omega) CopyI.to CopyI.zero (fun D i x ys H' hD hi hx s1 hy hI Q' k' => ?_) (fun D ys HE hDD sE hy hI => ?_) (tg_mono (tgc_mono (tgc_mono tgn_mono)))⟩
    · rw [List.length_map, pDp.1] at hi
      obtain ⟨a, l, c, f1, f2, f3, f4, f5⟩ := pDp.get hi
      rw [List.getElem?_map, f1] at hx
      cases hx
      refine s_gT (.inl (.inl (s1 _ _ f4))) rfl ?_
      (try walk_at "go")
      refine ⟨rfl, ?_⟩
      (try walk_at "go")
      refine s_lstL (SqL.of (s1 _ _ f5)) ?_
      walk_at "new"; rename_i l' nl H3 s3 e3
      (try walk_at "go")
      refine ⟨by show 2 ≤ sizeLine; decide, ?_⟩
      walk_at "new"; rename_i a' na H4 s4 e4
      exact k' _ _ (s3.trans s4) (hI.snoc s1 hy f3 s3 nl e3 na s4 e4)
    obtain ⟨bs, ms, rfl, pE, hn, hl2, ha2⟩ := hI
    rw [List.length_map, pDp.1, List.take_length] at pE
    (try walk_at "go")
    walk_at "made"; rename_i x1 dx1 nx1 ndx1 nex1 HF sF eF
    have v9 := vC.mono (l := 9) (by decide)
    refine ⟨x1, D, dx1, bs, cs, rfl, eF, SqL.of (sF _ _ hy), (pE.mono sF).all, cellsOk_v v9 (by decide), fun r hr => (by rw [boardRf_ok v9 (by decide)] at hr; cases hr), fun _ HG hG mG => ⟨rfl, ?_⟩⟩
    have sG : Same HE HG := fun b o e => mG b o (sF _ _ e) (ne_of_none e nx1)
    (try walk_at "go")
    walk_at "made"; rename_i x2 dx2 nx2 ndx2 nex2 HI sI eI
    have sDI := (sE.trans sG).trans sI
    refine ⟨x2, q, dx2, as', cs', rfl, eI, SqL.of (sDI _ _ eD), (pD.mono sDI).all, cellsOk_v vD (by decide), fun r hr => (by rw [boardRf_ok vD (by decide)] at hr; cases hr), fun _ HJ hJ mJ => ⟨rfl, ?_⟩⟩
    have sJ : Same HG HJ := fun b o e => mJ b o (sI _ _ e) (ne_of_none e nx2)
    have sEJ := sG.trans sJ
    have sDJ := sE.trans sEJ
    have hGJ := hG.mono sJ
    have eJD := sEJ _ _ hy
    have pJ := pE.mono sEJ
    have msl : ∀ l ∈ ms, ∃ xs, HJ l = some (.lst xs) ∧ xs.length ≤ 4 := fun l hm => by
      obtain ⟨i, hi, e⟩ := List.mem_iff_getElem.mp hm
      obtain ⟨a1, l1, c1, g1, g2, g3, g4, g5⟩ := pJ.get (i := i) (by rw [← pJ.2.1]; exact hi)
      rw [List.getElem?_eq_getElem hi, e] at g2
      cases g2
      exact ⟨_, g5, by rw [List.length_map]; exact (vC.2.2.2 _ (List.mem_of_getElem? g3)).2.1⟩
    (try walk_at "go")
    refine s_itL ?_
    (try walk_at "go")
    refine ⟨D, rfl, ⟨_, SqL.of eJD⟩, for_keep (fun i σ H' => (∃ u v, σ = [some (.ref a), some (.int n), some (.ref sd), some (.int t), some (.ref p), some (.ref q), u, v, some (.ref D), some (.ref x1), some (.ref x2)]) ∧ (∀ b o, HJ b = some o → b ∉ ms → H' b = some o) ∧ (∀ l ∈ ms, ∃ xs, H' l = some (.lst xs) ∧ xs.length ≤ 4 + i) ∧ i ≤ 3)
      (fun i σ' H' h => SqL.of (h.2.1 _ _ eJD fun m => (hl2 D m).2 rfl)) ⟨⟨_, _, rfl⟩, fun b o e _ => e, fun l hm => msl l hm, by decide⟩ (fun i y σ' H' hy' hp => ?_) fun σ' HK hp => ?_⟩
    · obtain ⟨⟨u, v, rfl⟩, h1, h2, h3⟩ := hp
      rw [List.getElem?_map] at hy'
      obtain ⟨b, eb, rfl⟩ : ∃ b, bs[i]? = some b ∧ y = .ref b := by
        cases q : bs[i]? with
        | none => rw [q] at hy'; cases hy'
        | some z => rw [q] at hy'; exact ⟨z, rfl, (Option.some.inj hy').symm⟩
      have hi : i < cs.length := by rw [← pJ.1]; exact (List.getElem?_eq_some_iff.mp eb).1
      obtain ⟨a1, l1, c1, g1, g2, g3, g4, g5⟩ := pJ.get hi
      rw [eb] at g1
      cases g1
      have bm : b ∉ ms := fun m => by
        obtain ⟨xs, e, _⟩ := msl b m
        rw [e] at g4; cases g4
      refine s_gT (.inl (.inl (h1 _ _ g4 bm))) rfl ?_
      (try walk_at "go")
      have lm := List.mem_of_getElem? g2
      obtain ⟨xs, ex, lx⟩ := h2 l1 lm
      refine ⟨.inl ⟨rfl, _, SqL.of ex⟩, ?_⟩
      (try walk_at "go")
      refine ⟨l1, _, _, rfl, rfl, ex, line_lt (by omega), ?_⟩
      refine ⟨⟨_, _, rfl⟩, fun b' o e hb => ?_, fun l hm => ?_, by omega⟩
      · rw [upd_ne (fun (r : b' = l1) => hb (by rw [r]; exact lm))]; exact h1 _ _ e hb
      · by_cases r : l = l1
        · subst r
          exact ⟨_, upd_same, by rw [List.length_append]; show xs.length + 1 ≤ _; omega⟩
        · obtain ⟨xs', ex', lx'⟩ := h2 l hm
          exact ⟨xs', by rw [upd_ne r]; exact ex', by omega⟩
    obtain ⟨⟨u, v, rfl⟩, h1, _, _⟩ := hp
    have eKD := h1 _ _ eJD fun m => (hl2 D m).2 rfl
    (try walk_at "go")
    refine ⟨.inl ⟨rfl, _, SqL.of eKD⟩, ?_⟩
    (try walk_at "go")
    refine ⟨by show 2 ≤ sizeLine; decide, ?_⟩
    walk_at "new"; rename_i y1 ny1 HL sL eL
    (try walk_at "go")
    refine ⟨by show 2 ≤ sizeLine; decide, ?_⟩
    walk_at "new"; rename_i y2 ny2 HM sM eM
    have sKM := sL.trans sM
    refine ⟨D, _, _, rfl, rfl, sKM _ _ eKD, line_lt (by rw [List.length_map, pE.1]; omega), ?_⟩
    generalize hN : upd HM D (.lst (bs.map V.ref ++ [.ref y2])) = HN
    have mN : ∀ b o, HM b = some o → b ≠ D → HN b = some o := fun b o e hb => by rw [← hN, upd_ne hb]; exact e
    have sDN : Same HD HN := fun b o e => mN b o (sKM _ _ (h1 _ _ (sDJ _ _ e) fun m => by rw [(hl2 b m).1] at e; cases e)) (ne_of_none e hDD)
    have toN : ∀ b o, HJ b = some o → (∀ ys, o ≠ .lst ys) → HN b = some o := fun b o e ho => mN b o (sKM _ _ (h1 _ _ e fun m => by
      obtain ⟨xs, e', _⟩ := msl b m
      rw [e'] at e; cases e; exact ho _ rfl)) fun r => by
        rw [r, eJD] at e; cases e; exact ho _ rfl
    have bN1 : BoardAt K x1 cs HN := hGJ.to toN
    have bN2 : BoardAt K x2 cs' HN := hJ.to toN
    clear toN mN h1 sKM sM eM sL eL ny1 ny2 eKD msl pJ eJD hGJ sEJ mJ hJ sJ sDI sI eI mG hG sG
    have s0N := s0D.trans sDN
    have eNp := sDN _ _ eDp
    have eNq := sDN _ _ eD
    have pN := pDp.mono sDN
    have pN' := pD.mono sDN
    have ⟨d1, t1, as1, i1, _⟩ := bN1
    have ⟨d2, t2, as2, i2, _⟩ := bN2
    have eqL : PyData.eqv (.list (cs.map dPL)) (.list (cs'.map dPL)) = decide (cs = cs') := by rw [← eqv_map dPL eqv_pl]; simp [PyData.eqv]
    have dp1 : Dp K HN (.ref p) (.list (cs.map dPL)) := .lst (SqL.of eNp) (dp_pairs dp_pl pN.all)
    have dp2 : Dp K HN (.ref q) (.list (cs'.map dPL)) := .lst (SqL.of eNq) (dp_pairs dp_pl pN'.all)
    (try walk_at "go")
    refine ⟨x1, d1, _, rfl, i1, .inr ⟨x2, d2, _, rfl, i2⟩, x1, cs, _, rfl, bN1, v9, .inr ⟨x2, cs', rfl, bN2, vD, _, rfl, ?_⟩⟩
    (try walk_at "go")
    refine s_eqD dp1 dp2 (shaped_l v9) (shaped_l vD) ?_
    rw [eqL]
    refine s_ne rfl ?_
    (try walk_at "go")
    refine iteN (fun h => absurd rfl h) fun _ => ?_
    (try walk_at "go")
    refine ⟨x2, d2, _, rfl, i2, .inr ⟨x1, d1, _, rfl, i1⟩, x2, cs', _, rfl, bN2, vD, .inr ⟨x1, cs, rfl, bN1, v9, _, rfl, ?_⟩⟩
    (try walk_at "go")
    refine s_eqD dp1 dp2 (shaped_l v9) (shaped_l vD) ?_
    rw [eqL]
    refine s_ne rfl ?_
    (try walk_at "go")
    have sym : decide (cs' = cs) = decide (cs = cs') := by
      by_cases h : cs = cs'
      · subst h; rfl
      · rw [decide_eq_false h, decide_eq_false fun e => h e.symm]
    rw [sym]
    refine iteN (fun h => absurd rfl h) fun _ => ?_
    (try walk_at "go")
    refine ⟨x1, d1, _, x2, d2, _, rfl, i1, rfl, i2, x1, cs, _, rfl, bN1, v9, .inr ⟨x2, cs', rfl, bN2, vD, _, rfl, ?_⟩⟩
    (try walk_at "go")
    refine s_eqD dp1 dp2 (shaped_l v9) (shaped_l vD) ?_
    rw [eqL]
    refine s_eq rfl ?_
    (try walk_at "go")
    refine iteDF (fun e => (by cases q : decide (cs = cs') <;> rw [q] at e <;> cases e)) ?_
    (try walk_at "go")
    refine ⟨x1, d1, _, rfl, i1, .inl ⟨_, rfl⟩, x1, cs, _, rfl, bN1, v9, .inl ⟨⟨_, rfl⟩, _, rfl, ?_⟩⟩
    (try walk_at "go")
    refine ⟨x1, p, as, ls, cs, rfl, bN1, eNp, pN, v9, vC.nz, fun HO sO => ?_⟩
    (try walk_at "go")
    refine ⟨x2, q, as', ls', cs', rfl, bN2.mono sO, sO _ _ eNq, pN'.mono sO, vD, zD, fun HP sP => ?_⟩
    (try walk_at "go")
    have sNP := sO.trans sP
    refine ⟨x1, p, as, ls, cs, rfl, bN1.mono sNP, sNP _ _ eNp, pN.mono sNP, v9, vC.nz, fun HQ sQ => ?_⟩
    (try walk_at "go")
    exact ⟨((s0.trans s0N).trans sNP).trans sQ, _, _, _, _, _, _, _, _, _, _, rfl⟩
  · obtain ⟨v1, v2, v3, v4, v5, v6, v7, v8, v9, v10, rfl⟩ := hp
    (try walk_at "go")
    exact k _
end
set_option maxHeartbeats 0
/-! ### the head: the top's run, its facts by names -/
abbrev R : PySem.W.OpenRow := PySem.W.OpenLaw.row PySem.Challenge.rw_manyboard_k03_boards_alike
abbrev hk : PySem.W.Hook := He.hookX 6 fa fn [] [] exK
def ob (s : PySem.W.SharedT) : He.AlX := He.obsX 6 fa fn [] [] exK (HandSHeadRun.getT s)
theorem ob_eq (s : PySem.W.SharedT) : ob s = hk.obs s.abs := He.obsX_eq (HandSHeadRun.getT_eq s)
def names0 : List Str := ["_wall", "BoardError", "BadCount", "NoName", "Twice", "NoCell", "LETTERS", "LETTERS_AND_FIGURES", "LONGEST_NAME", "is_name", "need_names", "need_once", "need_count", "Board", "need_values", "_law_cell_at", "_law_state", "_law_digit", "_law_name", "_law_names", "_law_cells", "_law_other", "_law_no_cell", "_law_right"]
def names : List Str := names0
theorem run (w : World) : HandSHeadRun.RunEq R (PySem.W.view R.prog [28]) hk ob 10000 names w := by
  intro os
  kernel_rfl
theorem facts {P : Program} {w : World} {K : PySem.W.Frag} {h : Heap} {mg : Str → Option Value} {f : Addr} (X : K.In h) (G : h.Ns mainGlobals mg) (hfa : mg ("law" : Str) = some (.ref f)) (c : He.SaysX fa fn [] [] exK w h K) :
    ∃ fd : FuncData, (∀ (s : Shared) (v : Value), BindsTo s fd ⟨[v], []⟩ [("_law_script", v)]) ∧ ∀ base : Heap, K.In base → base.Ns mainGlobals mg → FnOk P w K mg base CX0 10 f fd ["_law_script"] (spLaw K) := by
  have T : Txt K mg := ⟨w, h, X, G, c⟩
  obtain ⟨fd, F⟩ := T.d_law
  have e := hfa.symm.trans T.g_law
  cases e
  have b := FunD.bindsA (ps := ["_law_script"]) F fun _ _ _ _ _ _ us hl => match us, hl with | [_], _ => rfl
  exact ⟨fd, fun s v => b s [v] rfl, fun base _ _ => ok_law T F⟩
end My
open PySem PySem.W PySem.Calls PyProof.Rows
set_option maxRecDepth 100000 in
set_option maxHeartbeats 0 in
theorem PySem.Challenge.cw_manyboard_k03_boards_alike_holds : PySem.Challenge.rw_manyboard_k03_boards_alike.Holds := by
  w_on; o_law
  refine HandSHeadRun.head_any (r := OpenLaw.row PySem.Challenge.rw_manyboard_k03_boards_alike) (q := view (OpenLaw.row PySem.Challenge.rw_manyboard_k03_boards_alike).prog [28]) (H := My.hk) (ob := My.ob) (M := 10000) (loose := My.names) (d := HandSHeadRun.topDef (OpenLaw.row PySem.Challenge.rw_manyboard_k03_boards_alike).prog 28) (kwd := []) My.ob_eq
    (by kernel_rfl) (fun s => by kernel_rfl) My.run (by kernel_rfl) (by kernel_rfl) (by kernel_rfl) (by rfl) (by first | assumption | decide +kernel) (by decide +kernel) ⟨rfl, rfl, rfl, rfl, rfl, by decide +kernel⟩ ?hw ?hc
  case hw => w_witness2
  case hc =>
    refine L2.walk_ofE (l := PySem.Challenge.rw_manyboard_k03_boards_alike) (n := 63) (k := 10) (x := "_law_script") (CX := L2.CX0) rfl (by decide) (by kernel_rfl) ⟨rfl, by decide, by decide⟩ ?F (fun _ _ _ _ z => z)
    intro w mg fa h Y G hmg0
    obtain ⟨K, KX, c⟩ := Y
    have hmg : mg ("law" : PySem.Str) = some (.ref fa) := by
      have e : (HandSHeadRun.topDef (OpenLaw.row PySem.Challenge.rw_manyboard_k03_boards_alike).prog 28).name = ("law" : PySem.Str) := by kernel_rfl
      rw [← e]
      exact hmg0
    obtain ⟨fd, hb, hF⟩ := My.facts (P := (PySem.Challenge.rw_manyboard_k03_boards_alike).prog) (w := w) KX G hmg c
    exact ⟨K, fd, My.spLaw K, KX, hb, fun H a ns hl _ hS => ⟨a, ns, rfl, hS, hl, fun _ => rfl⟩, hF⟩
