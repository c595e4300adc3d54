import PyProof.Rows.All
import Wide.All
import OpenK.AllK
import Wide.FinOn
import HandS.ForMost
import HandS.IsInst
import HandS.Deep
import HandS.FStr
import HandS.Defaults
import HandS.MakeKw
import HandS.MakeKwOnly
import HandS.Property
import HandS.Flow
import HandS.Style
import HandS.TupLe
import HandS.WideBits
import HandS.RaiseMore
import HandS.SlotsOwn
import HandS.ClsMeth
import HandS.More
import PySem.Challenge.RW_unlikecalls_k12_whole_fills_cut_and_cove
set_option Elab.async false
set_option linter.all false
set_option maxRecDepth 100000
set_option maxHeartbeats 4000000
namespace UL
open PySem L2
/-! what every law of this document draws from: a list of two ints -/
/-- all that is tracked stays, but the object at p -/
def Stay (p : Addr) (H H' : Hp) : Prop := ∀ b o, b ≠ p → H b = some o → H' b = some o
theorem Stay.refl (p : Addr) (H : Hp) : Stay p H H := fun _ _ _ h => h
theorem Stay.trans {p : Addr} {H H1 H2 : Hp} (a : Stay p H H1) (b : Stay p H1 H2) : Stay p H H2 := fun c o n h => b c o n (a c o n h)
theorem Same.stay {H H' : Hp} (s : L2.Same H H') (p : Addr) : Stay p H H' := fun b o _ h => s b o h
theorem same_new {H : Hp} {p : Addr} {o : HO} (h : H p = none) : L2.Same H (upd H p o) := fun b u e => by rw [upd_ne (ne_of_none e h)]; exact e
/-- the pot: what is left of the digits, and the mixed number -/
def Pot (H : Hp) (p : Addr) : Prop := ∃ a b : Int, H p = some (.lst [.int a, .int b]) ∧ 0 ≤ b ∧ b < 4294967296
theorem Pot.same {H H' : Hp} {p : Addr} (h : Pot H p) (s : L2.Same H H') : Pot H' p := by
  obtain ⟨a, b, e, h1, h2⟩ := h
  exact ⟨a, b, s _ _ e, h1, h2⟩
theorem stay_upd {H : Hp} {p : Addr} {o : HO} : Stay p H (upd H p o) := fun b u n e => by rw [upd_ne n]; exact e
/-- _law_draw(pot, n): an int from 0 to n - 1 -/
def spDraw : Sp := fun vs H Q _ => ∃ (p : Addr) (n : Int), vs = [.ref p, .int n] ∧ Pot H p ∧ 0 < n ∧ n < 1073741824 ∧
  ∀ (d : Int) (H' : Hp), 0 ≤ d → d < n → Pot H' p → Stay p H H' → Q (.int d) H'
/-- _law_pick(pot, some): one of them -/
def spPick (K : PySem.W.Frag) : Sp := fun vs H Q _ => ∃ (p l : Addr) (xs : List V), vs = [.ref p, .ref l] ∧ Pot H p ∧ SqL K H l xs ∧ xs ≠ [] ∧ xs.length < 1073741824 ∧
  ∀ (i : Nat) (v : V) (H' : Hp), xs[i]? = some v → Pot H' p → Stay p H H' → Q v H'
end UL
set_option Elab.async false
set_option linter.all false
set_option maxRecDepth 100000
set_option maxHeartbeats 4000000
namespace UL
open PySem PySem.Spec PyProof.Rows L2
/-! ### instances of the text's own classes under ==, str, repr -/
section
variable {X : Cx} {CX : CXT} {C g : Addr} {n : Nat} {sp : Sp} {E : XK}
/-- what is asked of an instance's class for isinstance -/
structure CIsi (K : PySem.W.Frag) (C : Addr) : Prop where
  cl : Cls K C
  ca : PySem.W.findIn K (.ref C) "__class__" = some (some (.builtin "object.__class__"))
  cn : PySem.W.specialIn K (.builtin "object.__class__") "__get__" = some (some (.builtin "getset_descriptor.__get__"))
  ct : PySem.W.takesIn K (.builtin "object.__class__") = some true
  cm : PySem.W.mroIn K C (.type "object") = some true
theorem CIsi.ty {K : PySem.W.Frag} {C a dx : Addr} {H : Hp} {fs : List (Str × V)} (c : CIsi K C) (h : H a = some (.ins C dx fs)) : TyX K H (.ref a) (.ref C) :=
  .base (.ins h c.cl c.ca c.cn c.ct c.cm)
/-- x == y by the def at g, x an instance of the class at C, y anything whose type is known -/
def rEqI (K : PySem.W.Frag) (C : Addr) (sp : Sp) (E : XK) : R2 := fun x y H Q => ∃ (a dx : Addr) (fs : List (Str × V)) (t : Value), x = .ref a ∧ H a = some (.ins C dx fs) ∧ TyX K H y t ∧ PySem.W.notFirst K C t = true ∧ sp [x, y] H Q E
theorem op_eqI (hs : PySem.W.findIn X.K (.ref C) "__eq__" = some (some (.ref g))) (hf : PySem.W.isFn X.K (.ref g) = true) (F : FnR X.prog X.w X.K X.mg X.base CX n g sp) (hr : Room n X.A) (hx : Passes CX X E) :
    OpR X (compareOp .Eq) (rEqI X.K C sp E) := by
  intro pins s σ H x y v u Q I rx ry h
  obtain ⟨a, dx, fs, t, rfl, ha, ty, hn, q⟩ := h
  cases (show v = Value.ref a from rx)
  obtain ⟨mA, O, _⟩ := ins_get I.hok ha
  obtain ⟨od, J, _⟩ := O.look
  obtain ⟨m, hF⟩ := I.fr
  obtain ⟨Pk, Z, pk, _⟩ := kit_of I ry ty
  show wpAny _ _ (richCompare .Eq (.ref a) u) _ _ _
  refine PySem.W.cmp_K (op := .Eq) hr.units0 hF I.ok.mod.kin J (Z.ty _ _ I.kIn pk) hn hs hf ?_
  refine wpAny_mono (wpAny_call (run_fnR (us := [.ref a, u]) (vs := [.ref a, y]) F hr hx I (.cons rfl (.cons ry .nil)) q)) (fun r s' z => ?_) fun _ _ e => e
  obtain ⟨z', H', I', rz, qz⟩ := z
  exact SlX.cmpback rz ⟨z', H', I', rz, qz⟩
/-- repr(x), str(x) by the def at g: it hands back a text -/
def rShowI (C : Addr) (sp : Sp) (E : XK) : List V → Hp → VK → Prop := fun xs H Q => ∃ (a dx : Addr) (fs : List (Str × V)), xs = [.ref a] ∧ H a = some (.ins C dx fs) ∧ sp [.ref a] H (fun z H' => ∃ y, z = .str y ∧ Q z H') E
theorem call_reprI (hs : PySem.W.findIn X.K (.ref C) "__repr__" = some (some (.ref g))) (hf : PySem.W.isFn X.K (.ref g) = true) (F : FnR X.prog X.w X.K X.mg X.base CX n g sp) (hr : Room (n + 1) X.A) (hx : Passes CX X E) :
    CallR X (.builtin "repr") (rShowI C sp E) := by
  intro pins s σ H xs us Q I r h
  obtain ⟨a, dx, fs, rfl, ha, q⟩ := h
  obtain ⟨u, rfl, ru⟩ := vals1 r
  cases (show u = Value.ref a from ru)
  obtain ⟨mA, O, _⟩ := ins_get I.hok ha
  obtain ⟨od, J, _⟩ := O.look
  obtain ⟨m, hF⟩ := I.fr
  refine PySem.W.repr_K hr.in1.units0 hF I.ok.mod.kin J hs hf (wpAny_mono (wpAny_call (SlX.run_at (us := [.ref a]) (ws := [.ref a]) F hr.in1 I.env0.in1 hx I (.cons rfl .nil) q)) (fun w s' z => ?_) fun _ _ e => e)
  obtain ⟨z', H', I', rz, y, ey, qz⟩ := z
  subst ey
  obtain ⟨t, rfl⟩ := (show ∃ t, w = Value.str y t from rz)
  exact ⟨.str y, H', I', ⟨t, rfl⟩, qz⟩
theorem call_strI (hs : PySem.W.findIn X.K (.ref C) "__str__" = some (some (.ref g))) (hf : PySem.W.isFn X.K (.ref g) = true) (F : FnR X.prog X.w X.K X.mg X.base CX n g sp) (hr : Room (n + 2) X.A) (hx : Passes CX X E) :
    CallR X (.type "str") (rShowI C sp E) := by
  intro pins s σ H xs us Q I r h
  obtain ⟨a, dx, fs, rfl, ha, q⟩ := h
  obtain ⟨u, rfl, ru⟩ := vals1 r
  cases (show u = Value.ref a from ru)
  obtain ⟨mA, O, _⟩ := ins_get I.hok ha
  obtain ⟨od, J, _⟩ := O.look
  have hr2 : Room n X.A.in1.in1 := (show Room (n + 1) X.A.in1 from Room.in1 hr).in1
  refine PySem.W.kso_call hr2.units0 I.kIn J hs hf (wpAny_mono (wpAny_call (SlX.run_at (us := [.ref a]) (ws := [.ref a]) F hr2 I.env0.in1.in1 hx I (.cons rfl .nil) q)) (fun w s' z => ?_) fun _ _ e => e)
  obtain ⟨z', H', I', rz, y, ey, qz⟩ := z
  subst ey
  obtain ⟨t, rfl⟩ := (show ∃ t, w = Value.str y t from rz)
  exact ⟨.str y, H', I', ⟨t, rfl⟩, qz⟩
end
/-- a name of the module that holds v -/
theorem pe_gl {X : Cx} {x : Str} {v : V} {pos : Pos} (hg : Gl X x) (h : ∃ u, X.mg x = some u ∧ RelV v u) (hd : (x == ("__debug__" : Str)) = false := by decide) : PE X (.Name x pos) (tC v) :=
  let ⟨_, hm, r⟩ := h
  pe_glob hg hm r hd
/-! ### a static method, called by its class's name -/
/-- C.m is the def at g, a static method whose record stands at p -/
structure SMet (K : PySem.W.Frag) (C : Addr) (mc : Value) (m : Str) (p g : Addr) : Prop where
  rd : PySem.W.readsIn K C mc = true
  ga : PySem.W.specialIn K (.ref C) "__getattribute__" = some (some (.builtin "type.__getattribute__"))
  at_ : PySem.W.findCls K (.ref C) mc m = some (.get (.builtin "staticmethod.__get__") (.ref p) .none (.ref C))
  rc : ∃ rest, PySem.W.recIn K p "staticmethod" = some (.ref g :: rest)
  kp : PySem.W.keepIn K (.ref g) = true
section
variable {X : Cx} {CX : CXT} {C p g : Addr} {mc : Value} {k n : Nat} {fd : FuncData} {ps ks : List Str} {sp : Sp} {dvs : List V} {ds : List Value} {E : XK} {o e : Expr} {es : List Expr} {kws : List Keyword} {m : Str} {pos apos : Pos} {ta : TE} {t tk : TA}
  {gg : List Value → List Value → List Value} {gV : List V → List V → List V}
def tSMeth (C : Addr) (sp : Sp) (dvs : List V) (E : XK) (ta : TE) (t : TA) : TE := fun σ H Q => ta σ H fun x H1 => x = .ref C ∧ t σ H1 fun vs H2 => sp (vs ++ dvs) H2 Q E
theorem getsm_ok {pins : List (Addr × Obj)} {σ : L2.St} {H : Hp} {s : Shared} {A : Around} {E' : Value → Shared → Prop} {pl : Sem Bool} {Q : Value × List Value → Shared → Prop} (I : Inv X pins σ H s) (c : SMet X.K C mc m p g)
    (h : ∀ s', Inv X pins σ H s' → Q (.ref g, []) s') : wpAny (model X.prog X.w) A (getMethod (.ref C) m pl) Q E' s := by
  obtain ⟨rest, hp⟩ := c.rc
  refine PySem.W.method_cls I.kIn c.ga (PySem.W.cls_bind I.kIn c.rd c.at_ ?_)
  exact wpAny_call (PySem.W.sm_get (s := { s with toks := s.toks + 1 }) I.kIn hp (PySem.W.handed_on rfl (h _ (I.tok _))))
theorem pe_smeth {pl : Sem Bool} (he : PE X o ta) (c : SMet X.K C mc m p g) (F : FnOk X.prog X.w X.K X.mg X.base CX k g fd ps sp) (hr : Room k X.A) (hb : Binds X.K fd ps ds) (hd : Vals dvs ds) (hx : Passes CX X E) (ha : PA X (e :: es) t)
    (hst : starEach (e :: es) X.env = (false, eval e X.env) :: starEach es X.env := by rfl) (hpl : (backTo pos (starEach es X.env)).any (·.1) = false := by rfl)
    (ht : eval (.Call (.Attribute o m apos) (e :: es) [] pos) X.env = (do
      let ov ← eval o X.env
      standAt apos.atName
      let (fv, fi) ← holding [ov] (getMethod ov m pl)
      callWith pos fv fi (backTo pos (starEach (e :: es) X.env)) (backToKw pos (keywordEach [] X.env))) := by rfl) :
    PE X (.Call (.Attribute o m apos) (e :: es) [] pos) (tSMeth C sp dvs E ta t) := by
  refine ⟨fun pins s σ H Q I h => ?_⟩
  refine PySem.W.methodCall_KW (pl := pl) (thn (he.run pins s σ H _ I h) fun u s1 ⟨x, H1, I1, rx, ex, q⟩ => ?_) ht
  subst ex
  obtain rfl : u = Value.ref C := rx
  refine getsm_ok I1 c fun s2 I2 => ?_
  refine PySem.W.callWith_K (first := []) (h₀ := X.base) I.ok.mod.kin c.kp (thn (ha.run pos pins s2 σ H1 _ I2 q) fun us s3 ⟨vs, H2, I3, r, q2⟩ => ⟨I3.kIn, ?_⟩) hst hpl
  exact run_fn F hr hb hd hx I3 r q2
/-- C.m(k = v, ..): keywords alone -/
def tSMethK (C : Addr) (m : Nat) (sp : Sp) (gV : List V → List V → List V) (E : XK) (ta : TE) (tk : TA) : TE := fun σ H Q => ta σ H fun x H1 => x = .ref C ∧ tk σ H1 fun zs H2 => zs.length = m ∧ sp (gV [] zs) H2 Q E
theorem pe_smethK {pl : Sem Bool} (he : PE X o ta) (c : SMet X.K C mc m p g) (F : FnOk X.prog X.w X.K X.mg X.base CX k g fd ps sp) (hr : Room k X.A) (hb : KBn X.K fd ps 0 ks gg gV) (hx : Passes CX X E) (hkw : PK X kws tk)
    (hall : (backToKw pos (keywordEach kws X.env)).all (·.1.isSome) = true := by rfl) (hks : (backToKw pos (keywordEach kws X.env)).filterMap (·.1) = ks := by rfl)
    (hpl : ((backTo pos (starEach [] X.env)).any (·.1) || (backToKw pos (keywordEach kws X.env)).any (·.1.isNone)) = false := by rfl)
    (ht : eval (.Call (.Attribute o m apos) [] kws pos) X.env = (do
      let ov ← eval o X.env
      standAt apos.atName
      let (fv, fi) ← holding [ov] (getMethod ov m pl)
      callWith pos fv fi (backTo pos (starEach [] X.env)) (backToKw pos (keywordEach kws X.env))) := by rfl) :
    PE X (.Call (.Attribute o m apos) [] kws pos) (tSMethK C ks.length sp gV E ta tk) := by
  refine ⟨fun pins s σ H Q I h => ?_⟩
  refine PySem.W.methodCall_KW (pl := pl) (thn (he.run pins s σ H _ I h) fun u s1 ⟨x, H1, I1, rx, ex, q⟩ => ?_) ht
  subst ex
  obtain rfl : u = Value.ref C := rx
  refine getsm_ok I1 c fun s2 I2 => ?_
  refine PySem.W.callWith_KW0 (h₀ := X.base) I.ok.mod.kin c.kp hall ?_ hpl
  refine thn (hkw.run pos pins s2 σ H1 _ I2 q) fun ws s3 ⟨zs, H2, I3, rz, l2, q2⟩ => ⟨I3.kIn, ?_⟩
  rw [hks]
  exact run_fnN (us := []) (vs := []) F hr hb hx I3 .nil rz rfl l2 q2
end
end UL
set_option Elab.async false
set_option linter.all false
set_option maxRecDepth 100000
set_option maxHeartbeats 4000000
namespace UL
open PySem PySem.Spec PyProof.Rows L2
/-! ### promises that are kept where no repr is under way: defs that say repr of a list -/
structure FnG (P : Program) (w : World) (K : PySem.W.Frag) (mg : Str → Option Value) (base : Heap) (k : Nat) (f : Addr) (fd : FuncData) (ps : List Str) (sp : Sp) : Prop where
  len : ∀ vs H Q E, sp vs H Q E → vs.length = ps.length
  run : ∀ (A : Around) (outer : List Env) (s : Shared) (H : Hp) (args : Args) (us : List Value) (vs : List V) (Q : VK) (E : XK), A.guards = some [] → Room k A → Env0 P w K mg base A outer s H → BindsTo s fd args (ps.zip us) →
    Vals vs us → sp vs H Q E → codeAny (model P w) A (.call (.ref f) args) (CR CX0 outer P w H s Q E) s
section
variable {P : Program} {w : World} {K : PySem.W.Frag} {mg : Str → Option Value} {base : Heap}
theorem FnG.ofOk {k : Nat} {f : Addr} {fd : FuncData} {ps : List Str} {sp : Sp} (F : FnOk P w K mg base CX0 k f fd ps sp) : FnG P w K mg base k f fd ps sp :=
  ⟨F.len, fun A outer s H args us vs Q E _ => F.run A outer s H args us vs Q E⟩
theorem FnG.mk' {x qual : Str} {st : Stmt} {f : Addr} {fd : FuncData} {N ps : List Str} {k : Nat} {sp : Sp} (F : Fun K x qual st f fd) (S : FnScope N ps (defScope st)) (len : ∀ vs H Q E, sp vs H Q E → vs.length = ps.length)
    (go : ∀ (cdv : Value) (A : Around) (outer : List Env) (s : Shared) (H : Hp) (vs : List V) (Q : VK) (E : XK), A.guards = some [] → Room k (A.deeper (envOfC qual (defScope st) s.heap.objs.size f cdv)) → sp vs H Q E →
      ∃ t, PSs (cxOf CX0 P w K mg base N qual (defScope st) f cdv A outer s H E).nox (defBody st) t ∧ t { nx := fun _ H' => Q .non H', rt := Q } (start N vs) H) : FnG P w K mg base (k + 1) f fd ps sp := by
  obtain ⟨oc, od, kV, doc, pm, an, cdv, ct, osl, rfl, lk, hcd⟩ := F.ex
  refine ⟨len, fun A outer s H args us vs Q E hg hr e0 hb r hsp => ?_⟩
  have hlen := len _ _ _ _ hsp
  have inS : K.In s.heap := e0.mod.kin.keeps fun b o e => (e0.bs b o e).1
  have limS : s.heap.NoLimit := e0.mod.nolimit.keeps fun b o e => (e0.bs b o e).1
  have kinds : ∀ y ∈ ps.zip us, (defScope st).names.lookup y.1 = some .local ∨ ((defScope st).names.lookup y.1 = some .cell ∧ ((cellsFrom (s.heap.objs.size + 1) (defScope st).names []).lookup y.1).isSome = true) := by
    rintro ⟨n, v⟩ hy
    exact (S.par n (List.of_mem_zip hy).1).imp id fun q => ⟨q, PySem.W.cellsFrom_some _ _ _ (.inl q)⟩
  refine codeAny_call_function hr.depth (inS _ _ lk) rfl S.co S.gen rfl (PySem.W.codeRec_of inS hcd) (hb _ _ _ _ ?_)
  refine wpAny_newFunctionEnv_cells S.kind kinds fun env henv s1 x => ?_
  subst henv
  refine ⟨limS.keeps x.toInCall.keep, codeAny_func ?_⟩
  obtain ⟨t, ht, hq⟩ := go cdv A outer s H vs Q E hg (hr.deeper _) hsp
  have I : Inv (cxOf CX0 P w K mg base N qual (defScope st) f cdv A outer s H E) [] (start N vs) H s1 := inv_start S hr.hd e0 hlen r x
  refine wpAny_mono (ht.nox.run [] s1 (start N vs) H _ I hq) (fun fl s' hs => ?_) fun e s' hs => hs
  cases fl with
  | ret u =>
    obtain ⟨v, σ', H', J, rv, q⟩ := hs
    exact ⟨v, H', J.os, J.bare, J.base, J.hok, rv, q⟩
  | next =>
    obtain ⟨σ', H', J, q⟩ := hs
    exact ⟨V.non, H', J.os, J.bare, J.base, J.hok, rfl, q⟩
  | brk => exact hs.elim fun _ z => z.elim fun _ y => y.2.elim
  | cont => exact hs.elim fun _ z => z.elim fun _ y => y.2.elim
end
section
variable {X : Cx} {k : Nat} {f : Addr} {fd : FuncData} {ps : List Str} {sp : Sp} {dvs : List V} {ds : List Value} {E : XK} {x : Str} {p pos : Pos} {e : Expr} {es : List Expr} {t : TA}
theorem pe_callG (hgd : X.A.guards = some []) (F : FnG X.prog X.w X.K X.mg X.base k f fd ps sp) (hr : Room k X.A) (hg : Gl X x) (hm : X.mg x = some (.ref f)) (hk : PySem.W.keepIn X.K (.ref f) = true) (hb : Binds X.K fd ps ds) (hd : Vals dvs ds)
    (hx : Passes CX0 X E) (ha : PA X (e :: es) t) (hdb : (x == ("__debug__" : Str)) = false := by decide) (he : starEach (e :: es) X.env = (false, eval e X.env) :: starEach es X.env := by rfl)
    (hpl : (backTo pos (starEach es X.env)).any (·.1) = false := by rfl) : PE X (.Call (.Name x p) (e :: es) [] pos) (tCall sp dvs E t) := by
  refine ⟨fun pins s σ H Q I h => wpAny_Call_Name_kw (ld_glob I hg hm (PySem.W.callWith_K (h₀ := X.base) I.ok.mod.kin hk (thn (ha.run pos pins s σ H _ I h) fun us s1 ⟨vs, H1, I1, r, q⟩ => ⟨I1.kIn, ?_⟩) he hpl) hdb)⟩
  have r2 : Vals (vs ++ dvs) (us ++ ds) := r.append hd
  have hl : (us ++ ds).length = ps.length := r2.length.symm.trans (F.len _ _ _ _ q)
  refine wpAny_call (codeAny_mono (F.run X.A X.stack s1 H1 ⟨us, []⟩ (us ++ ds) (vs ++ dvs) Q E hgd hr I1.env0 (hb s1 us I1.kIn hl) r2 q) fun rr s' hq => ?_)
  cases rr with
  | error er => exact hx pins σ H1 s1 er s' I1 hq
  | ok fl => cases fl <;> first | exact I1.after hq | exact False.elim hq
/-- repr of data -/
def rReprD (K : PySem.W.Frag) : List V → Hp → VK → Prop := fun xs H Q => ∃ (v : V) (d : PyData), xs = [v] ∧ Dp K H v d ∧ d.showable = true ∧ d.hasDict = false ∧ d.depth ≤ 40 ∧ d.shown.length ≤ sizeLine ∧ Q (.str d.shown) H
theorem call_reprD (hgd : X.A.guards = some []) (hu : X.A.units + 64 < cLine) : CallR X (.builtin "repr") (rReprD X.K) := by
  intro pins s σ H xs us Q I r h
  obtain ⟨v, d, rfl, hd, hs, hn, hdp, hz, q⟩ := h
  obtain ⟨u, rfl, ru⟩ := vals1 r
  obtain ⟨as, rd⟩ := Dp.reads I d v u hd ru
  have fin : ∀ h' t tk, (∀ b o, s.heap.get? b = some o → h'.get? b = some o) → EP X pins σ Q (.str d.shown t) { s with heap := h', toks := tk } := fun h' t tk kp => ⟨.str d.shown, H, I.kept kp, ⟨t, rfl⟩, q⟩
  have hsz := hz
  cases rd with
  | none =>
    simp only [PyData.shown] at fin
    exact PySem.P.repr_of_none (fin s.heap _ _ fun _ _ z => z)
  | bool b =>
    simp only [PyData.shown] at fin
    exact PySem.P.repr_of_bool (fin s.heap _ _ fun _ _ z => z)
  | int i t =>
    simp only [PyData.shown] at fin
    exact PySem.P.repr_of_int (by simpa [PyData.showable] using hs) (fin s.heap _ _ fun _ _ z => z)
  | str x t =>
    simp only [PyData.shown] at fin hsz
    exact PySem.P.repr_of_str (fin s.heap _ _ fun _ _ z => z) hsz
  | list h1 h2 h3 h4 => exact repr_of_reads' (.list h1 h2 h3 h4) hs (PyData.noDict_hsm hn) hgd (by omega) (fun _ _ z => z) fin hz
  | tuple h1 h2 h3 h4 => exact repr_of_reads' (.tuple h1 h2 h3 h4) hs (PyData.noDict_hsm hn) hgd (by omega) (fun _ _ z => z) fin hz
  | dict h1 h2 h3 h4 h5 => simp [PyData.hasDict] at hn
end
end UL
set_option Elab.async false
set_option linter.all false
set_option maxRecDepth 100000
set_option maxHeartbeats 4000000
namespace UL
open PySem PySem.Spec PyProof.Rows L2
/-! ### the law's own call, by a promise of the kind FnG -/
section
variable {P : Program} {w : World} {K : PySem.W.Frag} {mg mb : Str → Option Value} {k : Nat} {fa a : Addr} {fd : FuncData} {x : Str} {sp : Sp} {s₁ : Shared} {vs : List Value} {ns : List Int}
/-- from an abstract heap that tracks the script alone, if anything -/
theorem call_from {H : Hp} (KX : K.In s₁.heap) (hns : s₁.heap.Ns mainGlobals mg) (hb : s₁.heap.Ns builtinsNs mb) (hbb : ∀ x : Str, x ≠ "__name__" → mb x = bootBuiltins x) (hlim : s₁.heap.NoLimit) (hg : s₁.gens = #[])
    (ha : s₁.heap.get? a = some { cls := .type "list", data := .seq vs.toArray }) (hr : Room k callerA) (F : ∀ base : Heap, K.In base → base.Ns mainGlobals mg → FnG P w K mg base k fa fd [x] sp) (hbind : ∀ (s : Shared) (u : Value), BindsTo s fd ⟨[u], []⟩ [(x, u)])
    (hO : Only H) (hok : HOk P w H s₁.heap) (only : ∀ b, H b ≠ none → b = a) (out : H a ≠ none → K.lookup a = none) (hsp : sp [.ref a] H (fun v _ => v = .bl true) fun _ _ _ => False) :
    codeAny (model P w) callerA (.call (.ref fa) ⟨[.ref a], []⟩) (fun r s' => r = .ok (.ret (.bool true)) ∧ OldK s₁.heap s'.heap ∧ s'.os = s₁.os ∧ AllBare s'.gens) s₁ := by
  -- what the script's address bears is no dict and no part of the written text
  have hid : ∀ {b : Addr} {o : Obj}, s₁.heap.get? b = some o → (b = a → H a = none) → (hidT s₁.heap H).get? b = some o := fun {b o} e n => hidT_get e (by
    cases q : H b with
    | none => rfl
    | some u =>
      have z : b = a := only b (fun y => by rw [y] at q; cases q)
      rw [z, n z] at q
      cases q)
  have hns' : ∀ {b : Addr} {m : Str → Option Value}, s₁.heap.Ns b m → (hidT s₁.heap H).Ns b m := fun {b m} ⟨o, es, ep, e, d, r⟩ => ⟨o, es, ep, hid e (fun z => by
    subst z
    rw [ha] at e
    cases e
    cases d), d, r⟩
  have hK' : K.In (hidT s₁.heap H) := fun b o e => hid (KX b o e) (fun z => by
    cases q : H a with
    | none => rfl
    | some u =>
      have y := out (fun t => by rw [t] at q; cases q)
      rw [z, y] at e
      cases e)
  have hM : Mod K mg (hidT s₁.heap H) := ⟨hK', hns' hns, ⟨mb, hns' hb, hbb⟩, let ⟨mc, h1, h2⟩ := hlim; ⟨mc, hns' h1, h2⟩⟩
  have e0 : Env0 P w K mg (hidT s₁.heap H) callerA [] s₁ H := ⟨rfl, hM, fun b o e => of_hidT e, Nat.le_of_eq (hidT_size _ _), trivial, fun b z => (nomatch (show b ∈ ([] : List Addr) from z)), hok, .of_eq hg⟩
  refine codeAny_mono ((F _ hK' (hns' hns)).run callerA [] s₁ H ⟨[.ref a], []⟩ [.ref a] [.ref a] _ _ rfl hr e0 (hbind s₁ (.ref a)) (.cons rfl .nil) hsp) fun r s' h => ?_
  match r, h with
  | .ok (.ret u), ⟨v, H', os, bare, un, hok', r', q⟩ =>
    cases (show v = .bl true from q)
    cases (show u = Value.bool true from r')
    refine ⟨rfl, OldK.of_keep fun b o e => ?_, os, bare⟩
    rcases hO b with z | ⟨ob, xs, z⟩
    · exact un.keep b o e z (fun y => nomatch (show b ∈ ([] : List Addr) from y)) (fun y => nomatch (show b ∈ ([] : List Addr) from y))
    · obtain ⟨e1, _⟩ := hok b _ z
      obtain ⟨e2, _⟩ := hok' b _ (un.frzs b ob _ z)
      rw [e] at e1
      cases e1
      exact e2
theorem law_callG (KX : K.In s₁.heap) (hns : s₁.heap.Ns mainGlobals mg) (hb : s₁.heap.Ns builtinsNs mb) (hbb : ∀ x : Str, x ≠ "__name__" → mb x = bootBuiltins x) (hlim : s₁.heap.NoLimit) (hg : s₁.gens = #[])
    (ha : s₁.heap.get? a = some { cls := .type "list", data := .seq vs.toArray }) (hi : IntsAre vs ns) (hl : ns.length ≤ sizeLine) (hr : Room k callerA) (F : ∀ base : Heap, K.In base → base.Ns mainGlobals mg → FnG P w K mg base k fa fd [x] sp)
    (hbind : ∀ (s : Shared) (u : Value), BindsTo s fd ⟨[u], []⟩ [(x, u)]) (hsp : ∀ H : Hp, Only H → SqL K H a (ns.map V.int) → sp [.ref a] H (fun v _ => v = .bl true) fun _ _ _ => False) :
    codeAny (model P w) callerA (.call (.ref fa) ⟨[.ref a], []⟩) (fun r s' => r = .ok (.ret (.bool true)) ∧ OldK s₁.heap s'.heap ∧ s'.os = s₁.os ∧ AllBare s'.gens) s₁ := by
  have rv := vals_ints hi
  have lenV := hi.length
  cases hk : K.lookup a with
  | some o =>
    obtain rfl : _ = o := Option.some.inj (ha.symm.trans (KX a o hk))
    have hO : Only fun _ => none := fun _ => .inl rfl
    exact call_from (H := fun _ => none) KX hns hb hbb hlim hg ha hr F hbind hO (fun b u z => nomatch (show (none : Option HO) = some u from z)) (fun b z => absurd rfl z) (fun z => absurd rfl z)
      (hsp _ hO (.inr ⟨_, vs.toArray, _, hk, rfl, rfl, rfl, by rw [List.size_toArray, lenV]; exact hl, by simpa using rv⟩))
  | none =>
    let H0 : Hp := fun b => if b = a then some (.frz { cls := .type "list", data := .seq vs.toArray } (.lst (ns.map V.int))) else none
    have at_ : H0 a = some (.frz { cls := .type "list", data := .seq vs.toArray } (.lst (ns.map V.int))) := if_pos rfl
    have no_ : ∀ b, b ≠ a → H0 b = none := fun b z => if_neg z
    have hO : Only H0 := fun b => if z : b = a then .inr ⟨{ cls := .type "list", data := .seq vs.toArray }, ns.map V.int, z ▸ at_⟩ else .inl (no_ b z)
    refine call_from (H := H0) KX hns hb hbb hlim hg ha hr F hbind hO (fun b u z => ?_) (fun b z => Decidable.byContradiction fun y => z (no_ b y)) (fun _ => hk) (hsp _ hO (.inl (.inr ⟨_, at_⟩)))
    by_cases y : b = a
    · subst y
      rw [at_] at z
      cases z
      exact ⟨ha, by rw [List.length_map]; exact hl, vs, _, rv, ha⟩
    · rw [no_ b y] at z
      cases z
end
theorem walkG {l : PySem.W.OpenLaw} {n k : Nat} {q : Program} {loose : List Str} {XP : (Str → Option Value) → Heap → Prop} {YP : World → Heap → Prop} {d : DefRec} {K : Params → PySem.W.Frag} {sp : World → Sp} {x : Str}
    (hn : l.most = some n) (hn2 : n ≤ sizeLine) (hdf : d.params.defaults = []) (hr : Room k callerA) (hY : ∀ (w : World) (h : Heap), YP w h → (K w.params).In h)
    (F : ∀ (w : World) (mg : Str → Option Value) (fa : Addr) (h : Heap), (K w.params).In h → h.Ns mainGlobals mg → mg d.name = some (.ref fa) →
      ∃ fd : FuncData, (∀ (s : Shared) (u : Value), BindsTo s fd ⟨[u], []⟩ [(x, u)]) ∧ ∀ base : Heap, (K w.params).In base → base.Ns mainGlobals mg → FnG l.prog w (K w.params) mg base k fa fd [x] (sp w))
    (hsp : ∀ (w : World) (H : Hp) (a : Addr) (ns : List Int), ns.length ≤ n → Only H → SqL (K w.params) H a (ns.map V.int) → sp w [.ref a] H (fun v _ => v = .bl true) fun _ _ _ => False) :
    PySem.W.WalkO q loose XP YP l.row.toRowW d [] (fun f vs => PySem.call f vs) := by
  refine Att.attach_call hn hdf fun w s₀ s₁ mg mb fa o pm cd doc a vs ns G Y _ _ _ hmg hobj hints hlen hg => ?_
  have KX := hY w _ Y
  obtain ⟨fd, hb, hF⟩ := F w mg fa _ KX G.T.g hmg
  exact law_callG KX G.T.g G.T.b G.T.builtins G.T.nolimit hg hobj hints (Nat.le_trans hlen hn2) hr hF hb fun H hO hS => hsp w H a ns hlen hO hS
end UL
set_option Elab.async false
set_option linter.all false
set_option maxRecDepth 100000
set_option maxHeartbeats 4000000
namespace UL
open PySem PySem.Spec PyProof.Rows L2
/-! ### what a caller knows of a def, a method, a property, a class's maker: its promise, nothing else -/
section
variable (P : Program) (w : World) (K : PySem.W.Frag) (mg : Str → Option Value) (base : Heap)
/-- the module's def x keeps sp, at level k -/
def Cal (k : Nat) (x : Str) (sp : Sp) : Prop := ∃ f fd ps, FnOk P w K mg base CX0 k f fd ps sp ∧ PySem.W.keepIn K (.ref f) = true ∧ Binds K fd ps [] ∧ mg x = some (.ref f)
def CalG (k : Nat) (x : Str) (sp : Sp) : Prop := ∃ f fd ps, FnG P w K mg base k f fd ps sp ∧ PySem.W.keepIn K (.ref f) = true ∧ Binds K fd ps [] ∧ mg x = some (.ref f)
/-- the method m of the class at C -/
def CalM (k : Nat) (C : Addr) (m : Str) (sp : Sp) : Prop := ∃ f fd ps, FnOk P w K mg base CX0 k f fd ps sp ∧ Cls K C ∧ Meth K C m f ∧ Binds K fd ps []
/-- .. called with the keywords ks, no positional arguments but self -/
def CalMK (k : Nat) (C : Addr) (m : Str) (ks : List Str) (gV : List V → List V → List V) (sp : Sp) : Prop := ∃ f fd ps g, FnOk P w K mg base CX0 k f fd ps sp ∧ Cls K C ∧ Meth K C m f ∧ KBn K fd ps 1 ks g gV
/-- the property m of the class at C -/
def CalP (k : Nat) (C : Addr) (m : Str) (sp : Sp) : Prop := ∃ p f fd ps, FnOk P w K mg base CX0 k f fd ps sp ∧ Cls K C ∧ PropOf K C m p f ∧ Binds K fd ps []
/-- the class x, at C, made by its __init__, the defaults dvs behind what is written -/
def Mak (k : Nat) (x : Str) (C : Addr) (dvs : List V) (sp : Sp) : Prop := ∃ f fd ps ds, FnOk P w K mg base CX0 k f fd ps sp ∧ Mk K C f ∧ mg x = some (.ref C) ∧ Binds K fd ps ds ∧ Vals dvs ds
/-- .. with the keywords ks alone -/
def MakK (k : Nat) (x : Str) (C : Addr) (ks : List Str) (gV : List V → List V → List V) (sp : Sp) : Prop := ∃ f fd ps g, FnOk P w K mg base CX0 k f fd ps sp ∧ Mk K C f ∧ mg x = some (.ref C) ∧ KBn K fd ps 1 ks g gV
/-- the special method m of the class at C, asked by an operator or a built-in -/
def CalS (k : Nat) (C : Addr) (m : Str) (sp : Sp) : Prop := ∃ f, FnR P w K mg base CX0 k f sp ∧ PySem.W.findIn K (.ref C) m = some (some (.ref f)) ∧ PySem.W.isFn K (.ref f) = true
/-- the static method m of the class x at C -/
def CalT (k : Nat) (C : Addr) (m : Str) (sp : Sp) : Prop := ∃ p f fd ps mc, FnOk P w K mg base CX0 k f fd ps sp ∧ SMet K C mc m p f ∧ Binds K fd ps []
def CalTK (k : Nat) (C : Addr) (m : Str) (ks : List Str) (gV : List V → List V → List V) (sp : Sp) : Prop := ∃ p f fd ps mc g, FnOk P w K mg base CX0 k f fd ps sp ∧ SMet K C mc m p f ∧ KBn K fd ps 0 ks g gV
end
section
variable {X : Cx} {k j : Nat} {x m : Str} {C : Addr} {sp : Sp} {dvs : List V} {e o : Expr} {es : List Expr} {kws : List Keyword} {ks : List Str} {gV : List V → List V → List V} {t tk : TA} {ta : TE} {p pos apos : Pos}
theorem pe_c (c : Cal X.prog X.w X.K X.mg X.base k x sp) (hr : Room j X.A) (hk : k ≤ j) (hg : Gl X x) (ha : PA X (e :: es) t) (hdb : (x == ("__debug__" : Str)) = false := by decide)
    (he : starEach (e :: es) X.env = (false, eval e X.env) :: starEach es X.env := by rfl) (hpl : (backTo pos (starEach es X.env)).any (·.1) = false := by rfl) : PE X (.Call (.Name x p) (e :: es) [] pos) (tCall sp [] E0 t) := by
  obtain ⟨f, fd, ps, F, kp, b, g⟩ := c
  exact pe_call F (hr.mono hk) hg g kp b .nil pass0 ha hdb he hpl
theorem pe_cG (hgd : X.A.guards = some []) (c : CalG X.prog X.w X.K X.mg X.base k x sp) (hr : Room j X.A) (hk : k ≤ j) (hg : Gl X x) (ha : PA X (e :: es) t) (hdb : (x == ("__debug__" : Str)) = false := by decide)
    (he : starEach (e :: es) X.env = (false, eval e X.env) :: starEach es X.env := by rfl) (hpl : (backTo pos (starEach es X.env)).any (·.1) = false := by rfl) : PE X (.Call (.Name x p) (e :: es) [] pos) (tCall sp [] E0 t) := by
  obtain ⟨f, fd, ps, F, kp, b, g⟩ := c
  exact pe_callG hgd F (hr.mono hk) hg g kp b .nil pass0 ha hdb he hpl
theorem pe_m {pl : Sem Bool} (he : PE X o ta) (c : CalM X.prog X.w X.K X.mg X.base k C m sp) (hr : Room j X.A) (hk : k ≤ j) (ha : PA X (e :: es) t)
    (hst : starEach (e :: es) X.env = (false, eval e X.env) :: starEach es X.env := by rfl) (hpl : (backTo pos (starEach es X.env)).any (·.1) = false := by rfl)
    (ht : eval (.Call (.Attribute o m apos) (e :: es) [] pos) X.env = (do
      let ov ← eval o X.env
      standAt apos.atName
      let (fv, fi) ← holding [ov] (getMethod ov m pl)
      callWith pos fv fi (backTo pos (starEach (e :: es) X.env)) (backToKw pos (keywordEach [] X.env))) := by rfl) :
    PE X (.Call (.Attribute o m apos) (e :: es) [] pos) (tMeth C m sp [] E0 ta t) := by
  obtain ⟨f, fd, ps, F, cl, mt, b⟩ := c
  exact pe_meth he cl mt F (hr.mono hk) b .nil pass0 ha hst hpl ht
/-- o.m(k = v, ..) -/
def tMethK (C : Addr) (m : Str) (n : Nat) (gV : List V → List V → List V) (sp : Sp) (ta : TE) (tk : TA) : TE := fun σ H Q => ta σ H fun x H1 => ∃ a dx fs, x = .ref a ∧ H1 a = some (.ins C dx fs) ∧ fs.lookup m = none ∧ tk σ H1 fun zs H2 => zs.length = n ∧ sp (gV [x] zs) H2 Q E0
theorem pe_mK {pl : Sem Bool} (he : PE X o ta) (c : CalMK X.prog X.w X.K X.mg X.base k C m ks gV sp) (hr : Room j X.A) (hk : k ≤ j) (hkw : PK X kws tk)
    (hall : (backToKw pos (keywordEach kws X.env)).all (·.1.isSome) = true := by rfl) (hks : (backToKw pos (keywordEach kws X.env)).filterMap (·.1) = ks := by rfl)
    (hpl : ((backTo pos (starEach [] X.env)).any (·.1) || (backToKw pos (keywordEach kws X.env)).any (·.1.isNone)) = false := by rfl)
    (ht : eval (.Call (.Attribute o m apos) [] kws pos) X.env = (do
      let ov ← eval o X.env
      standAt apos.atName
      let (fv, fi) ← holding [ov] (getMethod ov m pl)
      callWith pos fv fi (backTo pos (starEach [] X.env)) (backToKw pos (keywordEach kws X.env))) := by rfl) :
    PE X (.Call (.Attribute o m apos) [] kws pos) (tMethK C m ks.length gV sp ta tk) := by
  obtain ⟨f, fd, ps, g, F, cl, mt, b⟩ := c
  refine ⟨fun pins s σ H Q I h => ?_⟩
  refine PySem.W.methodCall_KW (pl := pl) (thn (he.run pins s σ H _ I h) fun u s1 ⟨x, H1, I1, rx, a, dx, fs, ex, ea, l, q⟩ => ?_) ht
  subst ex
  obtain rfl : u = Value.ref a := rx
  refine getmeth_ok I1 ea cl mt l ?_
  refine PySem.W.callWith_KW0 (first := [.ref a]) (h₀ := X.base) I.ok.mod.kin mt.kp hall ?_ hpl
  refine thn (hkw.run pos pins s1 σ H1 _ I1 q) fun ws s3 ⟨zs, H2, I3, rz, l2, q2⟩ => ⟨I3.kIn, ?_⟩
  rw [hks]
  exact run_fnN (us := [.ref a]) (vs := [.ref a]) F (hr.mono hk) b pass0 I3 (.cons rfl .nil) rz rfl l2 q2
theorem pe_p (he : PE X o ta) (c : CalP X.prog X.w X.K X.mg X.base k C m sp) (hr : Room j X.A) (hk : k + 1 ≤ j) (hab : attributeBase o m X.env (eval o X.env) = eval o X.env) : PE X (.Attribute o m pos) (tProp C sp [] E0 ta) := by
  obtain ⟨q, f, fd, ps, F, cl, pr, b⟩ := c
  exact pe_prop he cl pr F (hr.mono hk) b .nil pass0 hab
theorem pe_n (c : Mak X.prog X.w X.K X.mg X.base k x C dvs sp) (hr : Room j X.A) (hk : k + 1 ≤ j) (hg : Gl X x) (ha : PA X (e :: es) t) (hdb : (x == ("__debug__" : Str)) = false := by decide)
    (he : starEach (e :: es) X.env = (false, eval e X.env) :: starEach es X.env := by rfl) (hpl : (backTo pos (starEach es X.env)).any (·.1) = false := by rfl) : PE X (.Call (.Name x p) (e :: es) [] pos) (tMake C sp dvs E0 t) := by
  obtain ⟨f, fd, ps, ds, F, M, g, b, v⟩ := c
  exact pe_make M F (hr.mono hk) hg g b v pass0 ha hdb he hpl
theorem pe_n0 (c : Mak X.prog X.w X.K X.mg X.base k x C dvs sp) (hr : Room j X.A) (hk : k + 1 ≤ j) (hg : Gl X x) (hdb : (x == ("__debug__" : Str)) = false := by decide) : PE X (.Call (.Name x p) [] [] pos) (tMake C sp dvs E0 tNil) := by
  obtain ⟨f, fd, ps, ds, F, M, g, b, v⟩ := c
  exact pe_make0 M F (hr.mono hk) hg g b v pass0 hdb
theorem pe_nK (c : MakK X.prog X.w X.K X.mg X.base k x C ks gV sp) (hr : Room j X.A) (hk : k + 1 ≤ j) (hg : Gl X x) (hkw : PK X kws tk)
    (hall : (backToKw pos (keywordEach kws X.env)).all (·.1.isSome) = true := by rfl) (hks : (backToKw pos (keywordEach kws X.env)).filterMap (·.1) = ks := by rfl) (hdb : (x == ("__debug__" : Str)) = false := by decide)
    (hpl : ((backTo pos (starEach [] X.env)).any (·.1) || (backToKw pos (keywordEach kws X.env)).any (·.1.isNone)) = false := by rfl) :
    PE X (.Call (.Name x p) [] kws pos) (tMakeK C 0 ks.length sp gV E0 tNil tk) := by
  obtain ⟨f, fd, ps, gg, F, M, g, b⟩ := c
  exact pe_makeK0 M F (hr.mono hk) hg g b pass0 hkw hall hks hdb hpl
theorem op_eqS (c : CalS X.prog X.w X.K X.mg X.base k C "__eq__" sp) (hr : Room j X.A) (hk : k ≤ j) : OpR X (compareOp .Eq) (rEqI X.K C sp E0) := by
  obtain ⟨f, F, h1, h2⟩ := c
  exact op_eqI h1 h2 F (hr.mono hk) pass0
theorem call_reprS (c : CalS X.prog X.w X.K X.mg X.base k C "__repr__" sp) (hr : Room j X.A) (hk : k + 1 ≤ j) : CallR X (.builtin "repr") (rShowI C sp E0) := by
  obtain ⟨f, F, h1, h2⟩ := c
  exact call_reprI h1 h2 F (hr.mono hk) pass0
theorem call_strS (c : CalS X.prog X.w X.K X.mg X.base k C "__str__" sp) (hr : Room j X.A) (hk : k + 2 ≤ j) : CallR X (.type "str") (rShowI C sp E0) := by
  obtain ⟨f, F, h1, h2⟩ := c
  exact call_strI h1 h2 F (hr.mono hk) pass0
theorem pe_t {pl : Sem Bool} (he : PE X o ta) (c : CalT X.prog X.w X.K X.mg X.base k C m sp) (hr : Room j X.A) (hk : k ≤ j) (ha : PA X (e :: es) t)
    (hst : starEach (e :: es) X.env = (false, eval e X.env) :: starEach es X.env := by rfl) (hpl : (backTo pos (starEach es X.env)).any (·.1) = false := by rfl)
    (ht : eval (.Call (.Attribute o m apos) (e :: es) [] pos) X.env = (do
      let ov ← eval o X.env
      standAt apos.atName
      let (fv, fi) ← holding [ov] (getMethod ov m pl)
      callWith pos fv fi (backTo pos (starEach (e :: es) X.env)) (backToKw pos (keywordEach [] X.env))) := by rfl) :
    PE X (.Call (.Attribute o m apos) (e :: es) [] pos) (tSMeth C sp [] E0 ta t) := by
  obtain ⟨q, f, fd, ps, mc, F, s, b⟩ := c
  exact pe_smeth he s F (hr.mono hk) b .nil pass0 ha hst hpl ht
theorem pe_tK {pl : Sem Bool} (he : PE X o ta) (c : CalTK X.prog X.w X.K X.mg X.base k C m ks gV sp) (hr : Room j X.A) (hk : k ≤ j) (hkw : PK X kws tk)
    (hall : (backToKw pos (keywordEach kws X.env)).all (·.1.isSome) = true := by rfl) (hks : (backToKw pos (keywordEach kws X.env)).filterMap (·.1) = ks := by rfl)
    (hpl : ((backTo pos (starEach [] X.env)).any (·.1) || (backToKw pos (keywordEach kws X.env)).any (·.1.isNone)) = false := by rfl)
    (ht : eval (.Call (.Attribute o m apos) [] kws pos) X.env = (do
      let ov ← eval o X.env
      standAt apos.atName
      let (fv, fi) ← holding [ov] (getMethod ov m pl)
      callWith pos fv fi (backTo pos (starEach [] X.env)) (backToKw pos (keywordEach kws X.env))) := by rfl) :
    PE X (.Call (.Attribute o m apos) [] kws pos) (tSMethK C ks.length sp gV E0 ta tk) := by
  obtain ⟨q, f, fd, ps, mc, g, F, s, b⟩ := c
  exact pe_smethK he s F (hr.mono hk) b pass0 hkw hall hks hpl ht
end
end UL
set_option Elab.async false
set_option linter.all false
set_option maxRecDepth 100000
set_option maxHeartbeats 4000000
namespace UL
open PySem L2
/-! ### small facts of numbers, texts, lists -/
theorem log_small {i : Int} (h : i.natAbs < 2 ^ 64) : i.natAbs.log2 < 1920 := by
  by_cases c : i.natAbs = 0
  · rw [c]
    decide
  · exact Nat.lt_of_lt_of_le ((Nat.log2_lt c).mpr h) (by decide)
theorem eqV_self_str (x : Str) : eqV (.str x) (.str x) = true := by simp [eqV]
theorem eqV_self_int (x : Int) : eqV (.int x) (.int x) = true := by simp [eqV]
theorem inV_mem {v : V} {xs : List V} (h : v ∈ xs) (e : eqV v v = true) : inV v xs = true := List.any_eq_true.mpr ⟨v, h, e⟩
theorem line_ge {n : Nat} (h : n ≤ 16000000) : n ≤ sizeLine := by
  rw [sizeLine_eq]
  omega
theorem line_gt {n : Nat} (h : n ≤ 16000000) : n < sizeLine := by
  rw [sizeLine_eq]
  omega
end UL
set_option Elab.async false
set_option linter.all false
set_option maxRecDepth 100000
set_option maxHeartbeats 4000000
namespace UL
open PySem L2
/-! ### data: shapes, equality -/
theorem shaped_of {d : PyData} (h : d.canLay0 = true) (g : d.depth ≤ 64) : SeqAt.shaped d = true := by
  show (d.canLay0 && decide (d.depth ≤ 64)) = true
  rw [h, decide_eq_true g]
  rfl
theorem lay_all : ∀ {ds : List PyData}, (∀ d ∈ ds, d.canLay0 = true) → PyData.canLayAll0 ds = true
  | [], _ => by simp [PyData.canLayAll0]
  | d :: ds, h => by simp [PyData.canLayAll0, h d List.mem_cons_self, lay_all fun e he => h e (List.mem_cons_of_mem _ he)]
theorem depth_all {k : Nat} : ∀ {ds : List PyData}, (∀ d ∈ ds, d.depth ≤ k) → PyData.depthAll ds ≤ k
  | [], _ => by simp [PyData.depthAll]
  | d :: ds, h => by
    simp only [PyData.depthAll]
    have h1 := h d List.mem_cons_self
    have h2 := depth_all (ds := ds) fun e he => h e (List.mem_cons_of_mem _ he)
    omega
theorem shaped_list {ds : List PyData} {k : Nat} (h : ∀ d ∈ ds, d.canLay0 = true) (g : ∀ d ∈ ds, d.depth ≤ k) (hk : k ≤ 60) : SeqAt.shaped (.list ds) = true :=
  shaped_of (by simpa only [PyData.canLay0] using lay_all h) (by have := depth_all g; simp only [PyData.depth]; omega)
theorem shaped_tuple {ds : List PyData} {k : Nat} (h : ∀ d ∈ ds, d.canLay0 = true) (g : ∀ d ∈ ds, d.depth ≤ k) (hk : k ≤ 60) : SeqAt.shaped (.tuple ds) = true :=
  shaped_of (by simpa only [PyData.canLay0] using lay_all h) (by have := depth_all g; simp only [PyData.depth]; omega)
/-- a pair of an int and a text, as data -/
def pairD (x : Int × Str) : PyData := .tuple [.int x.1, .str x.2]
theorem pairD_eqv (x y : Int × Str) : PyData.eqv (pairD x) (pairD y) = decide (x = y) := by
  obtain ⟨a, b⟩ := x
  obtain ⟨c, d⟩ := y
  have e : PyData.eqv (pairD (a, b)) (pairD (c, d)) = ((a == c) && ((b == d) && true)) := by simp only [pairD, PyData.eqv, PyData.eqvAll]
  rw [e]
  by_cases h1 : a = c <;> by_cases h2 : b = d <;> simp [h1, h2]
theorem pairD_depth (x : Int × Str) : (pairD x).depth ≤ 1 := by simp [pairD, PyData.depth, PyData.depthAll]
theorem pairD_lay {x : Int × Str} (h : (PyData.str x.2).canLay0 = true) : (pairD x).canLay0 = true := by
  simp only [pairD, PyData.canLay0, PyData.canLayAll0]
  simp only [PyData.canLay0] at h
  simp [h]
/-- a list of such pairs at l -/
def PairsAt (H : Hp) (l : Addr) (xs : List (Int × Str)) : Prop := ∃ ps : List Addr, H l = some (.lst (ps.map V.ref)) ∧ ps.length = xs.length ∧
  ∀ (j : Nat) (a : Addr) (x : Int × Str), ps[j]? = some a → xs[j]? = some x → H a = some (.tup [.int x.1, .str x.2])
theorem PairsAt.same {H H' : Hp} {l : Addr} {xs : List (Int × Str)} (h : PairsAt H l xs) (s : L2.Same H H') : PairsAt H' l xs := by
  obtain ⟨ps, h1, h2, h3⟩ := h
  exact ⟨ps, s _ _ h1, h2, fun j a x e1 e2 => s _ _ (h3 j a x e1 e2)⟩
theorem dpAll_at {K : PySem.W.Frag} {H : Hp} : ∀ {vs : List V} {ds : List PyData}, vs.length = ds.length → (∀ (j : Nat) v d, vs[j]? = some v → ds[j]? = some d → Dp K H v d) → DpAll K H vs ds
  | [], [], _, _ => .nil
  | v :: vs, d :: ds, hl, h => .cons (h 0 v d rfl rfl) (dpAll_at (by simpa using hl) fun j a b e1 e2 => h (j + 1) a b (by simpa using e1) (by simpa using e2))
theorem dp_pair {K : PySem.W.Frag} {H : Hp} {a : Addr} {x : Int × Str} (h : H a = some (.tup [.int x.1, .str x.2])) : Dp K H (.ref a) (pairD x) := .tup (SqT.of h) (.cons (.int _) (.cons (.str _) .nil))
theorem PairsAt.dp {K : PySem.W.Frag} {H : Hp} {l : Addr} {xs : List (Int × Str)} (h : PairsAt H l xs) : Dp K H (.ref l) (.list (xs.map pairD)) := by
  obtain ⟨ps, h1, h2, h3⟩ := h
  refine .lst (SqL.of h1) (dpAll_at (by rw [List.length_map, List.length_map, h2]) fun j v d e1 e2 => ?_)
  rw [List.getElem?_map] at e1 e2
  obtain ⟨a, ea, rfl⟩ := Option.map_eq_some_iff.mp e1
  obtain ⟨x, ex, rfl⟩ := Option.map_eq_some_iff.mp e2
  exact dp_pair (h3 j a x ea ex)
theorem any_pairs (xs : List (Int × Str)) (x : Int × Str) : ((xs.map pairD).any fun z => PyData.eqv z (pairD x)) = decide (x ∈ xs) := by
  rw [List.any_map]
  rw [Bool.eq_iff_iff, List.any_eq_true, decide_eq_true_iff]
  constructor
  · rintro ⟨y, hy, e⟩
    have e' : PyData.eqv (pairD y) (pairD x) = true := e
    rw [pairD_eqv] at e'
    rw [← of_decide_eq_true e']
    exact hy
  · intro h
    refine ⟨x, h, ?_⟩
    show PyData.eqv (pairD x) (pairD x) = true
    rw [pairD_eqv]
    exact decide_eq_true rfl
/-- ints as data -/
theorem dp_ints {K : PySem.W.Frag} {H : Hp} : ∀ ns : List Int, DpAll K H (ns.map V.int) (ns.map PyData.int)
  | [] => .nil
  | n :: ns => .cons (.int n) (dp_ints ns)
theorem dp_bls {K : PySem.W.Frag} {H : Hp} : ∀ bs : List Bool, DpAll K H (bs.map V.bl) (bs.map PyData.bool)
  | [] => .nil
  | n :: ns => .cons (.bl n) (dp_bls ns)
end UL
set_option Elab.async false
set_option linter.all false
set_option maxRecDepth 100000
set_option maxHeartbeats 4000000
namespace UL
open PySem PySem.Spec PyProof.Rows L2
/-! ### from the facts that the top has written to what a caller knows -/
section
variable {P : Program} {w : World} {K : PySem.W.Frag} {mg : Str → Option Value} {base : Heap}
/-- a def without defaults, called with the keywords ks behind n values -/
theorem Fun.kbn {x qual : Str} {st : Stmt} {f : Addr} {fd : FuncData} {ps : List Str} (F : Fun K x qual st f fd) (n : Nat) (ks : List Str) (g : {α : Type} → List α → List α → List α)
    (hrel : ∀ {vs zs : List V} {us ws : List Value}, Vals vs us → Vals zs ws → Vals (g vs zs) (g us ws))
    (h : ∀ (kV doc pm : Value) (an : Option Addr) (cdv ct : Value) (us ws : List Value), us.length = n → ws.length = ks.length → bindArgs (PySem.W.fnOf x qual (defArgs st) (defBody st) (defScope st) .none kV doc pm an cdv ct) ⟨us, ks.zip ws⟩ = pure (ps.zip (g us ws))) :
    KBn K fd ps n ks (fun us ws => g us ws) (fun vs zs => g vs zs) := by
  obtain ⟨oc, od, kV, doc, pm, an, cdv, ct, osl, rfl, lk, hcd⟩ := F.ex
  exact ⟨fun s us ws _ l1 l2 => .of_eq (h kV doc pm an cdv ct us ws l1 l2), fun r1 r2 => hrel r1 r2⟩
theorem vals_app {vs zs : List V} {us ws : List Value} (a : Vals vs us) (b : Vals zs ws) : Vals (vs ++ zs) (us ++ ws) := a.append b
theorem vals_rev {zs : List V} {ws : List Value} (b : Vals zs ws) : Vals zs.reverse ws.reverse := by
  induction b with
  | nil => exact .nil
  | cons r _ ih =>
    rw [List.reverse_cons, List.reverse_cons]
    exact ih.append (.cons r .nil)
theorem vals_apprev {vs zs : List V} {us ws : List Value} (a : Vals vs us) (b : Vals zs ws) : Vals (vs ++ zs.reverse) (us ++ ws.reverse) := a.append (vals_rev b)
/-- a built-in class and an own one -/
theorem kt_of {T : String} {C : Addr} (h1 : PySem.W.isClsIn K C = true) (h2 : PySem.W.typeIn K (.ref C) = some (.type "type")) (h3 : PySem.W.subIn K (.type T) (.ref C) = some false) :
    PySem.W.kitOne K (.type T) (.ref C) = some false ∧ PySem.W.notFirst K C (.type T) = true := by
  constructor
  · unfold PySem.W.kitOne PySem.W.kitCls
    rw [if_neg (by intro z; cases (show false = true from z))]
    dsimp only
    rw [if_pos (by rw [h2]; simp [show (PySem.W.clsIn K C).isSome = true from h1])]
    exact h3
  · unfold PySem.W.notFirst
    rw [h3]
    simp
end
end UL
set_option Elab.async false
set_option linter.all false
set_option maxRecDepth 100000
set_option maxHeartbeats 4000000
namespace K12
open PySem L2 UL
def top (i : Nat) : Stmt := PySem.Challenge.pw_unlikecalls_k12_whole_fills_cut_and_cove.main.body.getD i (.Pass ⟨0, 0, 0, 0⟩)
abbrev sPot : Stmt := top 16
abbrev sDraw : Stmt := top 17
abbrev sPick : Stmt := top 18
/-- the built-ins' names that no def of the text takes -/
structure Bi (mg : Str → Option Value) : Prop where
  abs : mg "abs" = none
  max : mg "max" = none
  min : mg "min" = none
  int : mg "int" = none
  len : mg "len" = none
  divmod : mg "divmod" = none
  range : mg "range" = none
  str : mg "str" = none
  repr : mg "repr" = none
  isinstance : mg "isinstance" = none
  all : mg "all" = none
  bool : mg "bool" = none
section
variable {P : Program} {w : World} {K : PySem.W.Frag} {mg : Str → Option Value} {base : Heap}
theorem scDraw : FnScope ["_law_pot_here", "_law_size", "_law_digit"] ["_law_pot_here", "_law_size"] (defScope sDraw) := ⟨rfl, rfl, rfl, by decide +kernel, rfl, by decide +kernel, by decide +kernel⟩
theorem ok_draw {f : Addr} {fd : FuncData} (F : Fun K "_law_draw" "_law_draw" sDraw f fd) (B : Bi mg) : FnOk P w K mg base CX0 1 f fd ["_law_pot_here", "_law_size"] spDraw := by
  refine F.ok scDraw (fun vs H Q E h => ?_) (fun cdv A outer s H vs Q E hr h => ?_)
  · obtain ⟨p, n, rfl, _⟩ := h
    rfl
  · obtain ⟨p, n, rfl, ⟨a, b, hp, hb0, hb1⟩, hn0, hn1, k⟩ := h
    refine ⟨_, pss_cons (ps_if (pt_cmpR op_gt (pe_ix ix_list (pv 0) pe_int (fun _ _ => rfl)) pe_int (nomark _))
        (pss_cons (ps_asg (pe_callB call_divmod (by rfl) B.divmod (by decide +kernel) (pa_cons (pe_ix ix_list (pv 0) pe_int (fun _ _ => rfl)) (pa_cons (pv 1) pa_nil)))
            (pg_tup rfl (pgs_cons (pg_sub (pv 0) pe_int set_list) (pgs_cons (pg_name (i := 2) scDraw.nd rfl (.inl rfl)) pgs_nil))))
          (pss_one (ps_ret (pv 2)))) pss_nil)
      (pss_cons (ps_asg (pe_op op_mod (pe_callTy call_int1 (by rfl) B.int (by decide +kernel) (pa_cons (pe_op op_add (pe_op op_mul (pe_ix ix_list (pv 0) pe_int (fun _ _ => rfl)) pe_int) pe_int) pa_nil)) pe_int)
          (pg_sub (pv 0) pe_int set_list))
      (pss_one (ps_ret (pe_op op_mod (pe_callTy call_int1 (by rfl) B.int (by decide +kernel) (pa_cons (pe_op op_fdiv (pe_op op_mod (pe_callTy call_int1 (by rfl) B.int (by decide +kernel)
          (pa_cons (pe_op op_mul (pe_ix ix_list (pv 0) pe_int (fun _ _ => rfl)) (pe_ix ix_list (pv 0) pe_int (fun _ _ => rfl))) pa_nil)) pe_int) pe_int) pa_nil)) (pv 1))))), ?_⟩
    -- if pot[0] > 0
    refine ⟨_, rfl, p, _, _, _, rfl, rfl, SqL.of hp, atI_nat (j := 0) rfl, _, _, rfl, rfl, _, rfl, ?_⟩
    by_cases c : 0 < a
    · rw [decide_eq_true c]
      refine iteT ?_
      refine ⟨_, rfl, p, _, _, _, rfl, rfl, SqL.of hp, atI_nat (j := 0) rfl, _, rfl, _, _, rfl, ⟨hn0, hn1⟩, fun t ht => ?_⟩
      have npt : p ≠ t := ne_of_none hp ht
      refine ⟨t, _, rfl, SqT.of upd_same, rfl, _, _, rfl, _, rfl, p, _, _, 0, rfl, rfl, (by rw [upd_ne npt]; exact hp), rfl, _, _, rfl, rfl, ?_⟩
      refine ⟨_, rfl, ?_⟩
      refine k _ _ (Int.emod_nonneg _ (by omega)) (Int.emod_lt_of_pos _ hn0) ⟨_, b, upd_same, hb0, hb1⟩ fun u o hu e => ?_
      rw [upd_ne hu, upd_ne (ne_of_none e ht)]
      exact e
    · rw [decide_eq_false c]
      refine iteF ?_
      refine ⟨_, rfl, p, _, _, _, rfl, rfl, SqL.of hp, atI_nat (j := 1) rfl, _, _, rfl, rfl, .inr ⟨by decide, by decide⟩, _, _, rfl, rfl, .inl ⟨_, rfl, _, _, rfl, rfl, (by show (0 : Int) < 2147483587; decide), ?_⟩⟩
      refine ⟨_, rfl, p, _, _, 1, rfl, rfl, hp, rfl, ?_⟩
      have e1 : 0 ≤ (b * 48271 + 12161) % 2147483587 := Int.emod_nonneg _ (by decide)
      have e2 : (b * 48271 + 12161) % 2147483587 < 2147483587 := Int.emod_lt_of_pos _ (by decide)
      dsimp only [List.set]
      generalize (b * 48271 + 12161) % 2147483587 = z at e1 e2 ⊢
      refine ⟨_, rfl, p, _, _, _, rfl, rfl, SqL.of upd_same, atI_nat (j := 1) rfl, _, rfl, p, _, _, _, rfl, rfl, SqL.of upd_same, atI_nat (j := 1) rfl, _, _, rfl, rfl, .inl ⟨by omega, by omega⟩, .inl ⟨_, rfl, _, _, rfl, rfl, (by show (0 : Int) < 2147483549; decide), _, _, rfl, rfl, ⟨by decide, by decide⟩,
        .inl ⟨_, rfl, _, rfl, _, _, rfl, rfl, hn0, ?_⟩⟩⟩
      exact k _ _ (Int.emod_nonneg _ (by omega)) (Int.emod_lt_of_pos _ hn0) ⟨a, z, upd_same, e1, by omega⟩ stay_upd
end
end K12
set_option Elab.async false
set_option linter.all false
set_option maxRecDepth 100000
set_option maxHeartbeats 4000000
namespace K12
open PySem L2 UL
/-! ### fills as data -/
inductive FT where
  | free
  | f (s : Bool) (n : Int)
  deriving DecidableEq
def FT.w : FT → Str
  | .free => "free"
  | .f true _ => "sign"
  | .f false _ => "zeros"
def FT.e : FT → V
  | .free => .non
  | .f _ n => .int n
def FT.ok : FT → Prop
  | .free => True
  | .f _ n => 3 ≤ n ∧ n ≤ 128
def ff (t : FT) : List (Str × V) := [("_word", .str t.w), ("_extent", t.e)]
theorem we_ne : ¬ (("_word" : Str) = "_extent") := by decide +kernel
theorem ff_w (t : FT) : (ff t).lookup ("_word" : Str) = some (.str t.w) := by simp [ff, List.lookup]
theorem ff_e (t : FT) : (ff t).lookup ("_extent" : Str) = some t.e := by
  have h : (("_extent" : Str) == ("_word" : Str)) = false := by decide +kernel
  simp [ff, List.lookup, h]
theorem ff_no (t : FT) {m : Str} (h : (m == ("_word" : Str)) = false) (h' : (m == ("_extent" : Str)) = false) : (ff t).lookup m = none := by simp [ff, List.lookup, h, h']
theorem ff_put (t : FT) : putF "_extent" t.e (putF "_word" (.str t.w) []) = ff t := by
  show (if ("_word" : Str) = "_extent" then _ else (("_word" : Str), V.str t.w) :: putF "_extent" t.e []) = _
  rw [if_neg we_ne]
  rfl
/-- a Fill t stands at v -/
def FillAt (C : Addr) (H : Hp) (v : V) (t : FT) : Prop := ∃ a dx, v = .ref a ∧ H a = some (.ins C dx (ff t))
theorem FillAt.same {C : Addr} {H H' : Hp} {v : V} {t : FT} (h : FillAt C H v t) (s : L2.Same H H') : FillAt C H' v t := by
  obtain ⟨a, dx, e, q⟩ := h
  exact ⟨a, dx, e, s _ _ q⟩
theorem FillAt.stay {C p : Addr} {H H' : Hp} {v : V} {t : FT} (h : FillAt C H v t) (hp : Pot H p) (s : Stay p H H') : FillAt C H' v t := by
  obtain ⟨a, dx, e, q⟩ := h
  obtain ⟨_, _, q', _⟩ := hp
  exact ⟨a, dx, e, s _ _ (ne_of q q' (by intro z; cases z)) q⟩
/-! ### what the document says of them -/
def cutF (t : FT) (w b : Int) : FT := match t with
  | .free => .free
  | .f s n => if (if n < b then n else b) ≤ w then .free else .f s (if n < b then n else b)
def covF : FT → FT → Bool
  | _, .free => true
  | .free, .f _ _ => false
  | .f s n, .f s' n' => decide (s = s') && decide (n' ≤ n)
def strF : FT → Str
  | .free => "free"
  | .f true n => "sign " ++ toString n
  | .f false n => "zeros " ++ toString n
theorem cutF_ok {t : FT} {w b : Int} (h : t.ok) (hw : 2 ≤ w) (hb : b ≤ 128) : (cutF t w b).ok := by
  cases t with
  | free => exact True.intro
  | f s n =>
    obtain ⟨h1, h2⟩ := (show 3 ≤ n ∧ n ≤ 128 from h)
    have hm : (if n < b then n else b) ≤ 128 := by
      by_cases d : n < b
      · rw [if_pos d]
        exact h2
      · rw [if_neg d]
        exact hb
    show FT.ok (if (if n < b then n else b) ≤ w then .free else .f s (if n < b then n else b))
    generalize (if n < b then n else b) = m at hm ⊢
    by_cases c : m ≤ w
    · rw [if_pos c]
      exact True.intro
    · rw [if_neg c]
      exact ⟨by omega, hm⟩
/-! ### what the top has written -/
structure Txt (K : PySem.W.Frag) (mg : Str → Option Value) (C : Addr) : Prop where
  bi : Bi mg
  isi : CIsi K C
  nW : NoAttr K C "_word"
  nE : NoAttr K C "_extent"
  mgF : mg "Fill" = some (.ref C)
  mgFREE : ∃ u, mg "FREE" = some u ∧ RelV (.str "free") u
  mgZEROS : ∃ u, mg "ZEROS" = some u ∧ RelV (.str "zeros") u
  mgSIGN : ∃ u, mg "SIGN" = some u ∧ RelV (.str "sign") u
  mgLE : ∃ u, mg "LEAST_EXTENT" = some u ∧ RelV (.int 3) u
  mgLW : ∃ u, mg "LEAST_WIDTH" = some u ∧ RelV (.int 2) u
  mgMB : ∃ u, mg "MOST_BITS" = some u ∧ RelV (.int 128) u
  kt : ∀ T ∈ (["NoneType", "tuple", "str", "int", "list"] : List String), PySem.W.kitOne K (.type T) (.ref C) = some false ∧ PySem.W.notFirst K C (.type T) = true
abbrev sBetw : Stmt := top 1
abbrev sWord : Stmt := top 2
section
variable {P : Program} {w : World} {K : PySem.W.Frag} {mg : Str → Option Value} {base : Heap} {C : Addr}
/-- is_between of ints -/
def spBetw : Sp := fun vs H Q _ => ∃ i lo hi : Int, vs = [.int i, .int lo, .int hi] ∧ Q (.bl (decide (lo ≤ i ∧ i ≤ hi))) H
theorem scBetw : FnScope ["value", "least", "most"] ["value", "least", "most"] (defScope sBetw) := ⟨rfl, rfl, rfl, by decide +kernel, rfl, by decide +kernel, by decide +kernel⟩
theorem ok_betw {f : Addr} {fd : FuncData} (F : Fun K "is_between" "is_between" sBetw f fd) (B : Bi mg) :
    FnOk P w K mg base CX0 2 f fd ["value", "least", "most"] spBetw := by
  refine F.ok scBetw (fun vs H Q E h => ?_) (fun cdv A outer s H vs Q E hr h => ?_)
  · obtain ⟨i, lo, hi, rfl, _⟩ := h
    rfl
  · obtain ⟨i, lo, hi, rfl, k⟩ := h
    refine ⟨_, pss_one (ps_ret (pe_and (pe_callB call_isi (by rfl) B.isinstance (by decide +kernel) (pa_cons (pv 0) (pa_cons (pe_bltn (v := .ty "int") (by rfl) B.int (by decide +kernel) rfl) pa_nil)))
      (pe_and (pe_not (pe_callB call_isi (by rfl) B.isinstance (by decide +kernel) (pa_cons (pv 0) (pa_cons (pe_bltn (v := .ty "bool") (by rfl) B.bool (by decide +kernel) rfl) pa_nil)))) (pe_one (pe_chain op_le op_le (pv 1) (pv 0) (pv 2)))))), ?_⟩
    refine ⟨_, rfl, _, _, _, _, true, rfl, .ty "int", .base (.int i), kit_ty (by decide +kernel), _, rfl, iteT ?_⟩
    refine ⟨_, rfl, _, _, _, _, false, rfl, .ty "bool", .base (.int i), kit_ty (by decide +kernel), _, rfl, _, rfl, iteT ?_⟩
    refine ⟨_, rfl, _, rfl, _, _, rfl, rfl, _, rfl, ?_⟩
    by_cases c : lo ≤ i
    · rw [decide_eq_true c]
      refine iteT ⟨_, rfl, _, _, rfl, rfl, ?_⟩
      have e : decide (lo ≤ i ∧ i ≤ hi) = decide (i ≤ hi) := by simp [c]
      rw [e] at k
      exact k
    · rw [decide_eq_false c]
      have e : decide (lo ≤ i ∧ i ≤ hi) = false := decide_eq_false fun z => c z.1
      rw [e] at k
      exact iteF k
/-- is_word_of of a text and a tuple of texts -/
def spWord (K : PySem.W.Frag) : Sp := fun vs H Q _ => ∃ (x : Str) (a : Addr) (xs : List V), vs = [.str x, .ref a] ∧ SqT K H a xs ∧ xs.all flatV = true ∧ Q (.bl (inV (.str x) xs)) H
theorem scWord : FnScope ["value", "words"] ["value", "words"] (defScope sWord) := ⟨rfl, rfl, rfl, by decide +kernel, rfl, by decide +kernel, by decide +kernel⟩
theorem ok_word {f : Addr} {fd : FuncData} (F : Fun K "is_word_of" "is_word_of" sWord f fd) (B : Bi mg) : FnOk P w K mg base CX0 1 f fd ["value", "words"] (spWord K) := by
  refine F.ok scWord (fun vs H Q E h => ?_) (fun cdv A outer s H vs Q E hr h => ?_)
  · obtain ⟨x, a, xs, rfl, _⟩ := h
    rfl
  · obtain ⟨x, a, xs, rfl, hS, hf, k⟩ := h
    refine ⟨_, pss_one (ps_ret (pe_and (pe_callB call_isi (by rfl) B.isinstance (by decide +kernel) (pa_cons (pv 0) (pa_cons (pe_bltn (v := .ty "str") (by rfl) B.str (by decide +kernel) rfl) pa_nil)))
      (pe_one (pe_cmpR op_in_seq (pv 0) (pv 1) (by rfl))))), ?_⟩
    refine ⟨_, rfl, _, _, _, _, true, rfl, .ty "str", .base (.str x), kit_ty (by decide +kernel), _, rfl, iteT ?_⟩
    exact ⟨_, rfl, _, rfl, a, xs, rfl, .inr hS, rfl, hf, k⟩
end
end K12
set_option Elab.async false
set_option linter.all false
set_option maxRecDepth 100000
set_option maxHeartbeats 4000000
namespace K12
open PySem L2 UL
abbrev sInit : Stmt := inClass (top 14) 0
abbrev sRead : Stmt := inClass (top 14) 1
abbrev sPW : Stmt := inClass (top 14) 2
abbrev sPE : Stmt := inClass (top 14) 3
abbrev sPF : Stmt := inClass (top 14) 4
abbrev sCut : Stmt := inClass (top 14) 5
abbrev sCov : Stmt := inClass (top 14) 6
abbrev sEq : Stmt := inClass (top 14) 7
abbrev sStr : Stmt := inClass (top 14) 8
abbrev sRepr : Stmt := inClass (top 14) 9
section
variable {P : Program} {w : World} {K : PySem.W.Frag} {mg : Str → Option Value} {base : Heap} {C : Addr}
/-- Fill.__init__ of right parts -/
def spInit (C : Addr) : Sp := fun vs H Q _ => ∃ (p dx : Addr) (t : FT), vs = [.ref p, .str t.w, t.e] ∧ t.ok ∧ H p = some (.ins C dx []) ∧ ∀ H' : Hp, H' p = some (.ins C dx (ff t)) → (∀ b o, H b = some o → b ≠ p → H' b = some o) → Q .non H'
theorem words_in (t : FT) : inV (.str t.w) [.str "free", .str "zeros", .str "sign"] = true := by
  cases t with
  | free => decide +kernel
  | f s n =>
    cases s
    · show inV (.str "zeros") [.str "free", .str "zeros", .str "sign"] = true
      decide +kernel
    · show inV (.str "sign") [.str "free", .str "zeros", .str "sign"] = true
      decide +kernel
theorem scInit : FnScope ["self", "word", "extent"] ["self", "word", "extent"] (defScope sInit) := ⟨rfl, rfl, rfl, by decide +kernel, rfl, by decide +kernel, by decide +kernel⟩
theorem w_free {s : Bool} {n : Int} : decide (V.str (FT.f s n).w = V.str "free") = false := by
  cases s
  · show decide (V.str "zeros" = V.str "free") = false
    decide +kernel
  · show decide (V.str "sign" = V.str "free") = false
    decide +kernel
theorem ok_init {f f2 f3 : Addr} {fd fd2 fd3 : FuncData} (F : FunD K "__init__" "Fill.__init__" (defArgs sInit) (defBody sInit) (defScope sInit) [.str "free", .non] [] f fd) (T : Txt K mg C)
    (G2 : FnOk P w K mg base CX0 2 f2 fd2 ["value", "least", "most"] spBetw) (k2 : PySem.W.keepIn K (.ref f2) = true) (b2 : Binds K fd2 ["value", "least", "most"] []) (g2 : mg "is_between" = some (.ref f2))
    (G3 : FnOk P w K mg base CX0 1 f3 fd3 ["value", "words"] (spWord K)) (k3 : PySem.W.keepIn K (.ref f3) = true) (b3 : Binds K fd3 ["value", "words"] []) (g3 : mg "is_word_of" = some (.ref f3)) :
    FnOk P w K mg base CX0 3 f fd ["self", "word", "extent"] (spInit C) := by
  refine F.ok scInit (fun vs H Q E h => ?_) (fun cdv A outer s H vs Q E hr h => ?_)
  · obtain ⟨p, dx, t, rfl, _⟩ := h
    rfl
  · obtain ⟨p, dx, t, rfl, ht, hp, k⟩ := h
    have hr1 : Room 1 _ := hr.mono (by decide)
    refine ⟨_, pss_cons (ps_if (pt_not (pt_val (pe_call G3 hr1 (by rfl) g3 k3 b3 .nil pass0 (pa_cons (pv 1) (pa_cons (pe_tup (pa_cons (pe_gl (by rfl) T.mgFREE) (pa_cons (pe_gl (by rfl) T.mgZEROS) (pa_cons (pe_gl (by rfl) T.mgSIGN) pa_nil)))) pa_nil))))) (pss_one ps_never) pss_nil)
      (pss_cons (ps_if (PW.pt (pw_and (pt_cmpR op_eq (pv 1) (pe_gl (by rfl) T.mgFREE) (nomark _)) (pw_and1 (pt_cmpR op_notN (pv 2) pe_non (nomark _))))) (pss_one ps_never) pss_nil)
      (pss_cons (ps_if (PW.pt (pw_and (pt_cmpR op_ne (pv 1) (pe_gl (by rfl) T.mgFREE) (nomark _)) (pw_and1 (pt_not (pt_val (pe_call G2 hr (by rfl) g2 k2 b2 .nil pass0 (pa_cons (pv 2) (pa_cons (pe_gl (by rfl) T.mgLE) (pa_cons (pe_gl (by rfl) T.mgMB) pa_nil)))))))))
          (pss_one ps_never) pss_nil)
      (pss_cons (ps_fld (pv 0) (pv 1) rfl) (pss_one (ps_fld (pv 0) (pv 2) rfl))))), ?_⟩
    -- the word is one of three
    refine ⟨_, rfl, (by show 3 ≤ sizeLine; decide), fun q hq => ?_⟩
    have npq : p ≠ q := ne_of_none hp hq
    refine ⟨_, q, _, rfl, SqT.of upd_same, rfl, _, rfl, ?_⟩
    rw [words_in]
    refine iteF ?_
    have fin : ∀ H1 : Hp, (∀ b o, H b = some o → H1 b = some o) → tSeq (sFld K (tVar 0) (tVar 1) "_word") (sFld K (tVar 0) (tVar 2) "_extent") { nx := fun _ H' => Q .non H', rt := Q } (start ["self", "word", "extent"] [.ref p, .str t.w, t.e]) H1 := by
      intro H1 k1
      refine ⟨_, rfl, _, rfl, p, C, dx, _, rfl, k1 _ _ hp, T.isi.cl, T.nW, (by show 0 < 1000; decide), _, rfl, _, rfl, p, C, dx, _, rfl, upd_same, T.isi.cl, T.nE, (by show 1 < 1000; decide), ?_⟩
      refine k _ ?_ fun b o e hb => ?_
      · rw [upd_upd, ff_put]
        exact upd_same
      · rw [upd_upd, upd_ne hb]
        exact k1 _ _ e
    have kq := same_new (o := .tup [.str "free", .str "zeros", .str "sign"]) hq
    cases t with
    | free =>
      refine ⟨_, rfl, rfl, _, rfl, ?_⟩
      refine iteT ⟨_, rfl, rfl, _, rfl, ?_⟩
      refine iteF ⟨_, rfl, rfl, _, rfl, ?_⟩
      refine iteF (iteF ?_)
      exact fin _ kq
    | f s n =>
      obtain ⟨h1, h2⟩ := (show 3 ≤ n ∧ n ≤ 128 from ht)
      refine ⟨_, rfl, rfl, _, rfl, ?_⟩
      rw [w_free]
      refine iteF (iteF ⟨_, rfl, rfl, _, rfl, ?_⟩)
      rw [w_free]
      refine iteT ⟨_, rfl, n, 3, 128, rfl, _, rfl, ?_⟩
      rw [decide_eq_true (show (3 : Int) ≤ n ∧ n ≤ 128 from ⟨h1, h2⟩)]
      refine iteF ?_
      exact fin _ kq
/-- the properties -/
theorem scSelf {st : Stmt} (h : defScope st = defScope sPW) : FnScope ["self"] ["self"] (defScope st) := by
  rw [h]
  exact ⟨rfl, rfl, rfl, by decide +kernel, rfl, by decide +kernel, by decide +kernel⟩
def spGet (C : Addr) (g : FT → V) : Sp := fun vs H Q _ => ∃ (v : V) (t : FT), vs = [v] ∧ FillAt C H v t ∧ Q (g t) H
theorem scPW : FnScope ["self"] ["self"] (defScope sPW) := ⟨rfl, rfl, rfl, by decide +kernel, rfl, by decide +kernel, by decide +kernel⟩
theorem ok_pw {f : Addr} {fd : FuncData} (F : Fun K "word" "Fill.word" sPW f fd) (T : Txt K mg C) : FnOk P w K mg base CX0 1 f fd ["self"] (spGet C fun t => .str t.w) := by
  refine F.ok scPW (fun vs H Q E h => ?_) (fun cdv A outer s H vs Q E hr h => ?_)
  · obtain ⟨v, t, rfl, _⟩ := h
    rfl
  · obtain ⟨v, t, rfl, ⟨a, dx, rfl, ha⟩, k⟩ := h
    refine ⟨_, pss_one (ps_ret (pe_fld (pv 0) rfl)), ?_⟩
    exact ⟨_, rfl, a, C, dx, _, _, rfl, ha, T.isi.cl, T.nW, ff_w t, k⟩
theorem scPE : FnScope ["self"] ["self"] (defScope sPE) := ⟨rfl, rfl, rfl, by decide +kernel, rfl, by decide +kernel, by decide +kernel⟩
theorem ok_pe {f : Addr} {fd : FuncData} (F : Fun K "extent" "Fill.extent" sPE f fd) (T : Txt K mg C) : FnOk P w K mg base CX0 1 f fd ["self"] (spGet C FT.e) := by
  refine F.ok scPE (fun vs H Q E h => ?_) (fun cdv A outer s H vs Q E hr h => ?_)
  · obtain ⟨v, t, rfl, _⟩ := h
    rfl
  · obtain ⟨v, t, rfl, ⟨a, dx, rfl, ha⟩, k⟩ := h
    refine ⟨_, pss_one (ps_ret (pe_fld (pv 0) rfl)), ?_⟩
    exact ⟨_, rfl, a, C, dx, _, _, rfl, ha, T.isi.cl, T.nE, ff_e t, k⟩
theorem scPF : FnScope ["self"] ["self"] (defScope sPF) := ⟨rfl, rfl, rfl, by decide +kernel, rfl, by decide +kernel, by decide +kernel⟩
theorem ok_pf {f : Addr} {fd : FuncData} (F : Fun K "is_free" "Fill.is_free" sPF f fd) (T : Txt K mg C) : FnOk P w K mg base CX0 1 f fd ["self"] (spGet C fun t => .bl (decide (t = .free))) := by
  refine F.ok scPF (fun vs H Q E h => ?_) (fun cdv A outer s H vs Q E hr h => ?_)
  · obtain ⟨v, t, rfl, _⟩ := h
    rfl
  · obtain ⟨v, t, rfl, ⟨a, dx, rfl, ha⟩, k⟩ := h
    refine ⟨_, pss_one (ps_ret (pe_cmpR op_isN (pe_fld (pv 0) rfl) pe_non (nomark _))), ?_⟩
    refine ⟨_, rfl, a, C, dx, _, _, rfl, ha, T.isi.cl, T.nE, ff_e t, rfl, ?_⟩
    cases t with
    | free => exact k
    | f s n => exact k
/-- f == g, f a Fill; g a Fill, or data of another kind -/
def spEqF (K : PySem.W.Frag) (C : Addr) : Sp := fun vs H Q _ => ∃ (v u : V) (t : FT), vs = [v, u] ∧ FillAt C H v t ∧
  ((∃ t' : FT, FillAt C H u t' ∧ Q (.bl (decide (t = t'))) H) ∨ (∃ ty : String, TyX K H u (.type ty) ∧ ty ∈ (["NoneType", "tuple", "str", "int", "list"] : List String) ∧ Q (.bl false) H))
theorem we_eq (t t' : FT) : (decide (V.str t.w = V.str t'.w) && decide (t.e = t'.e)) = decide (t = t') := by
  rcases t with _ | ⟨s, n⟩ <;> rcases t' with _ | ⟨s', n'⟩
  · decide +kernel
  · cases s' <;> rfl
  · cases s <;> rfl
  · have e1 : decide (V.str (FT.f s n).w = V.str (FT.f s' n').w) = decide (s = s') := by
      cases s <;> cases s'
      · show decide (V.str "zeros" = V.str "zeros") = decide (false = false)
        decide +kernel
      · show decide (V.str "zeros" = V.str "sign") = decide (false = true)
        decide +kernel
      · show decide (V.str "sign" = V.str "zeros") = decide (true = false)
        decide +kernel
      · show decide (V.str "sign" = V.str "sign") = decide (true = true)
        decide +kernel
    have e2 : decide ((FT.f s n).e = (FT.f s' n').e) = decide (n = n') := by
      by_cases c : n = n'
      · subst c
        rw [decide_eq_true rfl]
        exact decide_eq_true rfl
      · rw [decide_eq_false c]
        exact decide_eq_false fun z => c (V.int.inj z)
    rw [e1, e2]
    by_cases c1 : s = s' <;> by_cases c2 : n = n' <;> simp [c1, c2]
theorem scal_e (t t' : FT) : scal t.e t'.e = true := by
  rcases t with _ | ⟨s, n⟩ <;> rcases t' with _ | ⟨s', n'⟩ <;> rfl
theorem scEq : FnScope ["self", "other"] ["self", "other"] (defScope sEq) := ⟨rfl, rfl, rfl, by decide +kernel, rfl, by decide +kernel, by decide +kernel⟩
theorem ok_eq {f : Addr} {fd : FuncData} (F : Fun K "__eq__" "Fill.__eq__" sEq f fd) (T : Txt K mg C) : FnOk P w K mg base CX0 1 f fd ["self", "other"] (spEqF K C) := by
  refine F.ok scEq (fun vs H Q E h => ?_) (fun cdv A outer s H vs Q E hr h => ?_)
  · obtain ⟨v, u, t, rfl, _⟩ := h
    rfl
  · obtain ⟨v, u, t, rfl, ⟨a, dx, rfl, ha⟩, h⟩ := h
    refine ⟨_, pss_one (ps_ret (pe_and (pe_callB call_isi (by rfl) T.bi.isinstance (by decide +kernel) (pa_cons (pv 1) (pa_cons (pe_glob (v := .ref C) (by rfl) T.mgF rfl) pa_nil)))
      (pe_and (pe_cmpR op_eq (pe_fld (pv 0) rfl) (pe_fld (pv 1) rfl) (nomark _)) (pe_one (pe_cmpR op_eq (pe_fld (pv 0) rfl) (pe_fld (pv 1) rfl) (nomark _)))))), ?_⟩
    rcases h with ⟨t', ⟨b, dy, rfl, hb⟩, k⟩ | ⟨ty, hty, hm, k⟩
    · refine ⟨_, rfl, _, _, _, _, true, rfl, .own C, T.isi.ty hb, (by simp [PySem.W.kitOne]), _, rfl, iteT ?_⟩
      refine ⟨_, rfl, a, C, dx, _, _, rfl, ha, T.isi.cl, T.nW, ff_w t, _, rfl, b, C, dy, _, _, rfl, hb, T.isi.cl, T.nW, ff_w t', rfl, _, rfl, ?_⟩
      rw [← we_eq] at k
      cases c : decide (V.str t.w = V.str t'.w) with
      | false =>
        rw [c] at k
        exact iteF k
      | true =>
        rw [c] at k
        exact iteT ⟨_, rfl, a, C, dx, _, _, rfl, ha, T.isi.cl, T.nE, ff_e t, _, rfl, b, C, dy, _, _, rfl, hb, T.isi.cl, T.nE, ff_e t', scal_e t t', k⟩
    · exact ⟨_, rfl, _, _, _, _, false, rfl, .own C, hty, (T.kt ty hm).1, _, rfl, iteF k⟩
end
end K12
set_option Elab.async false
set_option linter.all false
set_option maxRecDepth 100000
set_option maxHeartbeats 4000000
namespace K12
open PySem L2 UL
section
variable {P : Program} {w : World} {K : PySem.W.Frag} {mg : Str → Option Value} {base : Heap} {C : Addr}
/-- behind Fill(..): a new Fill, all else as it was -/
theorem made {H1 : Hp} {t : FT} {x0 : Str} {Q : VK} (ht : t.ok) (hx : x0 = t.w) (k : ∀ (v : V) (H' : Hp), L2.Same H1 H' → FillAt C H' v t → Q v H') : ∀ x dx, H1 x = none → H1 dx = none → dx ≠ x →
    spInit C [.ref x, .str x0, t.e] (upd (upd H1 dx (.own x)) x (.ins C dx [])) (fun v H2 => v = .non ∧ Q (.ref x) H2) E0 := fun x dx nx nd ne =>
  ⟨x, dx, t, by rw [hx], ht, upd_same, fun H' h kk => ⟨rfl, k _ _ (Same.made nx nd kk) ⟨x, dx, rfl, h⟩⟩⟩
/-- the same, one step before -/
theorem made1 {H1 : Hp} {t : FT} {x0 : Str} {R : VK} {x dx : Addr} (nx : H1 x = none) (nd : H1 dx = none) (ht : t.ok) (hx : x0 = t.w) (k : ∀ H' : Hp, L2.Same H1 H' → FillAt C H' (.ref x) t → R .non H') :
    spInit C [.ref x, .str x0, t.e] (upd (upd H1 dx (.own x)) x (.ins C dx [])) R E0 :=
  ⟨x, dx, t, by rw [hx], ht, upd_same, fun H' h kk => k _ (Same.made nx nd kk) ⟨x, dx, rfl, h⟩⟩
/-- f.cut(width, bits) -/
def spCutF (C : Addr) : Sp := fun vs H Q _ => ∃ (v : V) (t : FT) (wi b : Int), vs = [v, .int wi, .int b] ∧ FillAt C H v t ∧ t.ok ∧ 2 ≤ wi ∧ wi ≤ 128 ∧ wi ≤ b ∧ b ≤ 128 ∧
  ∀ (u : V) (H' : Hp), L2.Same H H' → FillAt C H' u (cutF t wi b) → Q u H'
theorem scCutF : FnScope ["self", "width", "bits", "extent"] ["self", "width", "bits"] (defScope sCut) := ⟨rfl, rfl, rfl, by decide +kernel, rfl, by decide +kernel, by decide +kernel⟩
theorem ok_cutF {f : Addr} {fd : FuncData} (F : Fun K "cut" "Fill.cut" sCut f fd) (T : Txt K mg C) (cb : Cal P w K mg base 2 "is_between" spBetw) (c0 : Mak P w K mg base 3 "Fill" C [.str "free", .non] (spInit C)) (c2 : Mak P w K mg base 3 "Fill" C [] (spInit C)) :
    FnOk P w K mg base CX0 5 f fd ["self", "width", "bits"] (spCutF C) := by
  refine F.ok scCutF (fun vs H Q E h => ?_) (fun cdv A outer s H vs Q E hr h => ?_)
  · obtain ⟨v, t, wi, b, rfl, _⟩ := h
    rfl
  · obtain ⟨v, t, wi, b, rfl, ⟨a, dx, rfl, ha⟩, ht, hw0, hw1, hb0, hb1, k⟩ := h
    refine ⟨_, pss_cons (ps_if (pt_not (pt_val (pe_c cb hr (by decide) (by rfl) (pa_cons (pv 1) (pa_cons (pe_gl (by rfl) T.mgLW) (pa_cons (pe_gl (by rfl) T.mgMB) pa_nil)))))) (pss_one ps_never) pss_nil)
      (pss_cons (ps_if (pt_not (pt_val (pe_c cb hr (by decide) (by rfl) (pa_cons (pv 2) (pa_cons (pv 1) (pa_cons (pe_gl (by rfl) T.mgMB) pa_nil)))))) (pss_one ps_never) pss_nil)
      (pss_cons (ps_if (pt_cmpR op_isN (pe_fld (pv 0) rfl) pe_non (nomark _)) (pss_one (ps_ret (pv 0))) pss_nil)
      (pss_cons (ps_set (i := 3) scCutF.nd rfl (.inl rfl) (pe_ifExp (pt_cmpR op_lt (pe_fld (pv 0) rfl) (pv 2) (nomark _)) (pe_fld (pv 0) rfl) (pv 2)))
      (pss_cons (ps_if (pt_cmpR op_le (pv 3) (pv 1) (nomark _)) (pss_one (ps_ret (pe_n0 c0 hr (by decide) (by rfl)))) pss_nil)
      (pss_one (ps_ret (pe_n c2 hr (by decide) (by rfl) (pa_cons (pe_fld (pv 0) rfl) (pa_cons (pv 3) pa_nil))))))))), ?_⟩
    refine ⟨_, rfl, wi, 2, 128, rfl, _, rfl, ?_⟩
    rw [decide_eq_true (show (2 : Int) ≤ wi ∧ wi ≤ 128 from ⟨hw0, hw1⟩)]
    refine iteF ⟨_, rfl, _, rfl, b, wi, 128, rfl, _, rfl, ?_⟩
    rw [decide_eq_true (show wi ≤ b ∧ b ≤ 128 from ⟨hb0, hb1⟩)]
    refine iteF ⟨_, rfl, a, C, dx, _, _, rfl, ha, T.isi.cl, T.nE, ff_e t, rfl, _, rfl, ?_⟩
    cases t with
    | free => exact iteT ⟨_, rfl, k _ _ (Same.refl H) ⟨a, dx, rfl, ha⟩⟩
    | f s n =>
      refine iteF ⟨_, rfl, a, C, dx, _, _, rfl, ha, T.isi.cl, T.nE, ff_e _, _, rfl, n, b, rfl, rfl, _, rfl, ?_⟩
      have key : ∀ m : Int, m = (if n < b then n else b) → tSeq (tIfS (tTest (tOp (rI0 fun i j => .bl (decide (i ≤ j))) (tVar 3) (tVar 1))) (tRet (tMake C (spInit C) [.str "free", .non] E0 tNil)) tNext)
          (tRet (tMake C (spInit C) [] E0 (tCons (tFld K (tVar 0) "_word") (tCons (tVar 3) tNil)))) { nx := fun _ H' => Q .non H', rt := Q } [some (.ref a), some (.int wi), some (.int b), some (.int m)] H := by
        intro m em
        refine ⟨_, rfl, _, rfl, m, wi, rfl, rfl, _, rfl, ?_⟩
        by_cases c : m ≤ wi
        · rw [decide_eq_true c]
          refine iteT (made (t := .free) True.intro rfl fun v H' s' h' => k v H' s' ?_)
          have e : cutF (.f s n) wi b = .free := by
            show (if (if n < b then n else b) ≤ wi then FT.free else _) = _
            rw [← em, if_pos c]
          rw [e]
          exact h'
        · rw [decide_eq_false c]
          have e : cutF (.f s n) wi b = .f s m := by
            show (if (if n < b then n else b) ≤ wi then FT.free else FT.f s (if n < b then n else b)) = _
            rw [← em, if_neg c]
          have ok2 := cutF_ok ht hw0 hb1 (w := wi)
          rw [e] at ok2
          refine iteF ⟨_, rfl, a, C, dx, _, _, rfl, ha, T.isi.cl, T.nW, ff_w _, _, rfl, ?_⟩
          refine made (t := .f s m) ok2 (by cases s <;> rfl) fun v H' s' h' => k v H' s' ?_
          rw [e]
          exact h'
      by_cases c : n < b
      · rw [decide_eq_true c]
        exact iteT ⟨_, rfl, a, C, dx, _, _, rfl, ha, T.isi.cl, T.nE, ff_e _, key n (if_pos c).symm⟩
      · rw [decide_eq_false c]
        exact iteF ⟨_, rfl, key b (if_neg c).symm⟩
/-- f.covers(g) -/
def spCovF (C : Addr) : Sp := fun vs H Q _ => ∃ (v u : V) (t t' : FT), vs = [v, u] ∧ FillAt C H v t ∧ FillAt C H u t' ∧ Q (.bl (covF t t')) H
theorem scCovF : FnScope ["self", "other"] ["self", "other"] (defScope sCov) := ⟨rfl, rfl, rfl, by decide +kernel, rfl, by decide +kernel, by decide +kernel⟩
def sameW : FT → Bool → Bool
  | .free, _ => false
  | .f s' _, s => decide (s' = s)
theorem w_eq {t : FT} {s : Bool} {n : Int} : decide (V.str t.w = V.str (FT.f s n).w) = sameW t s := by
  cases t with
  | free =>
    cases s
    · show decide (V.str "free" = V.str "zeros") = false
      decide +kernel
    · show decide (V.str "free" = V.str "sign") = false
      decide +kernel
  | f s' m =>
    cases s <;> cases s'
    · show decide (V.str "zeros" = V.str "zeros") = decide (false = false)
      decide +kernel
    · show decide (V.str "sign" = V.str "zeros") = decide (true = false)
      decide +kernel
    · show decide (V.str "zeros" = V.str "sign") = decide (false = true)
      decide +kernel
    · show decide (V.str "sign" = V.str "sign") = decide (true = true)
      decide +kernel
theorem ok_covF {f : Addr} {fd : FuncData} (F : Fun K "covers" "Fill.covers" sCov f fd) (T : Txt K mg C) (cF : CalP P w K mg base 1 C "is_free" (spGet C fun t => .bl (decide (t = .free)))) (cW : CalP P w K mg base 1 C "word" (spGet C fun t => .str t.w))
    (cE : CalP P w K mg base 1 C "extent" (spGet C FT.e)) : FnOk P w K mg base CX0 3 f fd ["self", "other"] (spCovF C) := by
  refine F.ok scCovF (fun vs H Q E h => ?_) (fun cdv A outer s H vs Q E hr h => ?_)
  · obtain ⟨v, u, t, t', rfl, _⟩ := h
    rfl
  · obtain ⟨v, u, t, t', rfl, ⟨a, dx, rfl, ha⟩, ⟨b, dy, rfl, hb⟩, k⟩ := h
    refine ⟨_, pss_cons (ps_if (pt_not (pt_val (pe_callB call_isi (by rfl) T.bi.isinstance (by decide +kernel) (pa_cons (pv 1) (pa_cons (pe_glob (v := .ref C) (by rfl) T.mgF rfl) pa_nil))))) (pss_one ps_never) pss_nil)
      (pss_cons (ps_if (pt_val (pe_p (pv 1) cF hr (by decide) (by rfl))) (pss_one (ps_ret pe_bl)) pss_nil)
      (pss_one (ps_ret (pe_and (pe_cmpR op_eq (pe_fld (pv 0) rfl) (pe_p (pv 1) cW hr (by decide) (by rfl)) (nomark _)) (pe_one (pe_cmpR op_ge (pe_fld (pv 0) rfl) (pe_p (pv 1) cE hr (by decide) (by rfl)) (nomark _))))))), ?_⟩
    refine ⟨_, rfl, _, _, _, _, true, rfl, .own C, T.isi.ty hb, (by simp [PySem.W.kitOne]), _, rfl, ?_⟩
    refine iteF ⟨_, rfl, b, dy, _, rfl, hb, _, t', rfl, ⟨b, dy, rfl, hb⟩, _, rfl, ?_⟩
    cases t' with
    | free =>
      refine iteT ?_
      have e : covF t .free = true := by cases t <;> rfl
      rw [e] at k
      exact k
    | f s' n' =>
      refine iteF ⟨_, rfl, a, C, dx, _, _, rfl, ha, T.isi.cl, T.nW, ff_w _, _, rfl, b, dy, _, rfl, hb, _, _, rfl, ⟨b, dy, rfl, hb⟩, rfl, _, rfl, ?_⟩
      rw [w_eq]
      cases t with
      | free => exact iteF k
      | f s n =>
        by_cases c : s = s'
        · have e : covF (.f s n) (.f s' n') = decide (n' ≤ n) := by
            show (decide (s = s') && decide (n' ≤ n)) = _
            rw [decide_eq_true c, Bool.true_and]
          rw [e] at k
          rw [show sameW (.f s n) s' = true from decide_eq_true c]
          exact iteT ⟨_, rfl, a, C, dx, _, _, rfl, ha, T.isi.cl, T.nE, ff_e _, _, rfl, b, dy, _, rfl, hb, _, _, rfl, ⟨b, dy, rfl, hb⟩, n, n', rfl, rfl, k⟩
        · have e : covF (.f s n) (.f s' n') = false := by
            show (decide (s = s') && decide (n' ≤ n)) = _
            rw [decide_eq_false c, Bool.false_and]
          rw [e] at k
          rw [show sameW (.f s n) s' = false from decide_eq_false c]
          exact iteF k
end
end K12
set_option Elab.async false
set_option linter.all false
set_option maxRecDepth 100000
set_option maxHeartbeats 4000000
namespace K12
open PySem L2 UL
/-! ### numbers from 3 to 128 as texts, found by the kernel one by one -/
theorem num_of {n : Int} (h : 3 ≤ n ∧ n ≤ 128) : ∃ m : _root_.Fin 129, n = ((m.val : Nat) : Int) := ⟨⟨n.toNat, by omega⟩, by show n = ((n.toNat : Nat) : Int); omega⟩
theorem num_len' : ∀ m : _root_.Fin 129, (toString ((m.val : Nat) : Int) : Str).length ≤ 3 := by decide +kernel
theorem num_len {n : Int} (h : 3 ≤ n ∧ n ≤ 128) : (toString n : Str).length ≤ 3 := by
  obtain ⟨m, rfl⟩ := num_of h
  exact num_len' m
theorem num_int' : ∀ m : _root_.Fin 129, intText? (toString ((m.val : Nat) : Int) : Str) = some ((m.val : Nat) : Int) := by decide +kernel
theorem num_int {n : Int} (h : 3 ≤ n ∧ n ≤ 128) : intText? (toString n : Str) = some n := by
  obtain ⟨m, rfl⟩ := num_of h
  exact num_int' m
def wOf (s : Bool) : Str := if s then "sign" else "zeros"
theorem w_of (s : Bool) (n : Int) : (FT.f s n).w = wOf s := by cases s <;> rfl
theorem str_f (s : Bool) (n : Int) : strF (.f s n) = wOf s ++ " " ++ toString n := by
  cases s
  · show ("zeros " : Str) ++ toString n = ("zeros" : Str) ++ (" " : Str) ++ toString n
    have e : (("zeros" : Str) ++ (" " : Str)) = ("zeros " : Str) := by decide +kernel
    rw [e]
  · show ("sign " : Str) ++ toString n = ("sign" : Str) ++ (" " : Str) ++ toString n
    have e : (("sign" : Str) ++ (" " : Str)) = ("sign " : Str) := by decide +kernel
    rw [e]
theorem part_f' : ∀ (s : Bool) (m : _root_.Fin 129), Txt.partition (wOf s ++ " " ++ (toString ((m.val : Nat) : Int) : Str)) " " = (wOf s, (" " : Str), (toString ((m.val : Nat) : Int) : Str)) := by decide +kernel
theorem part_f {s : Bool} {n : Int} (h : 3 ≤ n ∧ n ≤ 128) : Txt.partition (strF (.f s n)) " " = (wOf s, (" " : Str), (toString n : Str)) := by
  rw [str_f]
  obtain ⟨m, rfl⟩ := num_of h
  exact part_f' s m
theorem str_ne' : ∀ (s : Bool) (m : _root_.Fin 129), decide (V.str (wOf s ++ " " ++ (toString ((m.val : Nat) : Int) : Str)) = V.str "free") = false := by decide +kernel
theorem str_ne {s : Bool} {n : Int} (h : 3 ≤ n ∧ n ≤ 128) : decide (V.str (strF (.f s n)) = V.str "free") = false := by
  rw [str_f]
  obtain ⟨m, rfl⟩ := num_of h
  exact str_ne' s m
theorem wOf_len (s : Bool) : (wOf s).length ≤ 5 := by cases s <;> decide +kernel
theorem str_len {t : FT} (h : t.ok) : (strF t).length ≤ 12 := by
  cases t with
  | free =>
    show (("free" : Str)).length ≤ 12
    decide +kernel
  | f s n =>
    rw [str_f, Str.length_append, Str.length_append]
    have h1 := wOf_len s
    have h2 := num_len (show 3 ≤ n ∧ n ≤ 128 from h)
    have h3 : ((" " : Str)).length = 1 := by decide +kernel
    omega
def reprF : FT → Str
  | .free => "Fill('free')"
  | .f s n => ("Fill('" : Str) ++ (wOf s ++ (("', " : Str) ++ (toString n ++ (")" : Str))))
section
variable {P : Program} {w : World} {K : PySem.W.Frag} {mg : Str → Option Value} {base : Heap} {C : Addr}
def spShow (C : Addr) (g : FT → Str) : Sp := fun vs H Q _ => ∃ (v : V) (t : FT), vs = [v] ∧ FillAt C H v t ∧ t.ok ∧ Q (.str (g t)) H
theorem scStr : FnScope ["self"] ["self"] (defScope sStr) := ⟨rfl, rfl, rfl, by decide +kernel, rfl, by decide +kernel, by decide +kernel⟩
theorem ok_str {f : Addr} {fd : FuncData} (F : Fun K "__str__" "Fill.__str__" sStr f fd) (T : Txt K mg C) : FnOk P w K mg base CX0 1 f fd ["self"] (spShow C strF) := by
  refine F.ok scStr (fun vs H Q E h => ?_) (fun cdv A outer s H vs Q E hr h => ?_)
  · obtain ⟨v, t, rfl, _⟩ := h
    rfl
  · obtain ⟨v, t, rfl, ⟨a, dx, rfl, ha⟩, ht, k⟩ := h
    refine ⟨_, pss_cons (ps_if (pt_cmpR op_isN (pe_fld (pv 0) rfl) pe_non (nomark _)) (pss_one (ps_ret pe_str)) pss_nil)
      (pss_one (ps_ret (pe_joined (.cons (pe_fmt (pe_fld (pv 0) rfl)) (.cons pe_str (.cons (pe_fmt (pe_fld (pv 0) rfl)) .nil)))))), ?_⟩
    refine ⟨_, rfl, a, C, dx, _, _, rfl, ha, T.isi.cl, T.nE, ff_e t, rfl, _, rfl, ?_⟩
    cases t with
    | free => exact iteT k
    | f s n =>
      have hn := (show 3 ≤ n ∧ n ≤ 128 from ht)
      have h2 := num_len hn
      have h1 := wOf_len s
      have h3 : ((" " : Str)).length = 1 := by decide +kernel
      have e : ((Str.empty ++ (FT.f s n).w) ++ (" " : Str)) ++ toString n = strF (.f s n) := by rw [str_f, w_of, Str.empty_append]
      rw [← e, w_of] at k
      refine iteF ⟨_, rfl, a, C, dx, _, _, rfl, ha, T.isi.cl, T.nW, ff_w _, .inl ⟨_, rfl, ?_, _, rfl, ?_, _, rfl, ?_, _, rfl, a, C, dx, _, _, rfl, ha, T.isi.cl, T.nE, ff_e _, .inr ⟨n, rfl, log_small (by omega), _, rfl, ?_, ?_⟩⟩⟩
      · rw [w_of]
        exact line_ge (by omega)
      · rw [w_of, Str.empty_append]
        exact line_ge (by omega)
      · rw [w_of, Str.empty_append, Str.length_append]
        exact line_ge (by omega)
      · rw [w_of, Str.empty_append, Str.length_append, Str.length_append]
        exact line_ge (by omega)
      · rw [w_of]
        exact k
theorem repr_w (s : Bool) : reprText (wOf s) = ("'" : Str) ++ wOf s ++ ("'" : Str) := by cases s <;> decide +kernel
theorem scRepr : FnScope ["self"] ["self"] (defScope sRepr) := ⟨rfl, rfl, rfl, by decide +kernel, rfl, by decide +kernel, by decide +kernel⟩
theorem ok_repr {f : Addr} {fd : FuncData} (F : Fun K "__repr__" "Fill.__repr__" sRepr f fd) (T : Txt K mg C) : FnOk P w K mg base CX0 1 f fd ["self"] (spShow C reprF) := by
  refine F.ok scRepr (fun vs H Q E h => ?_) (fun cdv A outer s H vs Q E hr h => ?_)
  · obtain ⟨v, t, rfl, _⟩ := h
    rfl
  · obtain ⟨v, t, rfl, ⟨a, dx, rfl, ha⟩, ht, k⟩ := h
    refine ⟨_, pss_cons (ps_if (pt_cmpR op_isN (pe_fld (pv 0) rfl) pe_non (nomark _)) (pss_one (ps_ret (pe_joined (.cons pe_str (.cons (pe_fmtR (pe_fld (pv 0) rfl)) (.cons pe_str .nil)))))) pss_nil)
      (pss_one (ps_ret (pe_joined (.cons pe_str (.cons (pe_fmtR (pe_fld (pv 0) rfl)) (.cons pe_str (.cons (pe_fmt (pe_fld (pv 0) rfl)) (.cons pe_str .nil)))))))), ?_⟩
    refine ⟨_, rfl, a, C, dx, _, _, rfl, ha, T.isi.cl, T.nE, ff_e t, rfl, _, rfl, ?_⟩
    cases t with
    | free =>
      refine iteT ⟨_, rfl, ?_, _, rfl, a, C, dx, _, _, rfl, ha, T.isi.cl, T.nW, ff_w _, .inl ⟨_, rfl, ?_, _, rfl, ?_, _, rfl, ?_, ?_⟩⟩
      · exact line_ge (by decide +kernel)
      · exact line_ge (by decide +kernel)
      · exact line_ge (by decide +kernel)
      · exact line_ge (by decide +kernel)
      · have e : ((Str.empty ++ ("Fill(" : Str)) ++ reprText (FT.free).w) ++ (")" : Str) = reprF .free := by decide +kernel
        rw [← e] at k
        exact k
    | f s n =>
      have hn := (show 3 ≤ n ∧ n ≤ 128 from ht)
      have h2 := num_len hn
      have h1 := wOf_len s
      have h3 : (("'" : Str)).length = 1 := by decide +kernel
      have h4 : (("Fill(" : Str)).length = 5 := by decide +kernel
      have h5 : ((", " : Str)).length = 2 := by decide +kernel
      have h6 : ((")" : Str)).length = 1 := by decide +kernel
      have h7 : (reprText (wOf s)).length ≤ 7 := by
        rw [repr_w, Str.length_append, Str.length_append]
        omega
      have e1 : ("Fill('" : Str) = ("Fill(" : Str) ++ ("'" : Str) := by decide +kernel
      have e2 : ("', " : Str) = ("'" : Str) ++ (", " : Str) := by decide +kernel
      have e : ((((Str.empty ++ ("Fill(" : Str)) ++ reprText (wOf s)) ++ (", " : Str)) ++ toString n) ++ (")" : Str) = reprF (.f s n) := by
        show _ = ("Fill('" : Str) ++ (wOf s ++ (("', " : Str) ++ (toString n ++ (")" : Str))))
        rw [repr_w, e1, e2, Str.empty_append]
        simp only [Str.append_assoc]
      rw [← e] at k
      refine iteF ⟨_, rfl, ?_, _, rfl, a, C, dx, _, _, rfl, ha, T.isi.cl, T.nW, ff_w _, .inl ⟨_, rfl, ?_, _, rfl, ?_, _, rfl, ?_, _, rfl, a, C, dx, _, _, rfl, ha, T.isi.cl, T.nE, ff_e _, .inr ⟨n, rfl, log_small (by omega), _, rfl, ?_, _, rfl, ?_, ?_⟩⟩⟩
      · rw [Str.empty_append]
        exact line_ge (by omega)
      · rw [w_of]
        exact line_ge (by omega)
      · rw [w_of, Str.empty_append, Str.length_append]
        exact line_ge (by omega)
      · rw [w_of, Str.empty_append, Str.length_append, Str.length_append]
        exact line_ge (by omega)
      · rw [w_of, Str.empty_append, Str.length_append, Str.length_append, Str.length_append]
        exact line_ge (by omega)
      · rw [w_of, Str.empty_append, Str.length_append, Str.length_append, Str.length_append, Str.length_append]
        exact line_ge (by omega)
      · rw [w_of]
        exact k
end
end K12
set_option Elab.async false
set_option linter.all false
set_option maxRecDepth 100000
set_option maxHeartbeats 4000000
namespace K12
open PySem L2 UL
section
variable {P : Program} {w : World} {K : PySem.W.Frag} {mg : Str → Option Value} {base : Heap} {C : Addr}
/-- Fill.read of the text of a fill -/
def spRead (C : Addr) : Sp := fun vs H Q _ => ∃ t : FT, vs = [.str (strF t)] ∧ t.ok ∧ ∀ (v : V) (H' : Hp), L2.Same H H' → FillAt C H' v t → Q v H'
def exts (n : Nat) : List V := (List.range n).map fun j : Nat => V.str (toString (3 + ((j : Nat) : Int)))
theorem exts_more (n : Nat) : exts (n + 1) = exts n ++ [V.str (toString (3 + ((n : Nat) : Int)))] := by
  unfold exts
  rw [List.range_succ, List.map_append]
  rfl
theorem exts_len (n : Nat) : (exts n).length = n := by simp [exts]
theorem exts_flat (n : Nat) : (exts n).all flatV = true := by
  unfold exts
  rw [List.all_map]
  exact List.all_eq_true.mpr fun _ _ => rfl
theorem exts_in {n : Int} (h : 3 ≤ n ∧ n ≤ 128) : inV (.str (toString n)) (exts 126) = true := by
  refine inV_mem ?_ (eqV_self_str _)
  refine List.mem_map.mpr ⟨(n - 3).toNat, List.mem_range.mpr (by omega), ?_⟩
  have e : (3 : Int) + (((n - 3).toNat : Nat) : Int) = n := by omega
  rw [e]
theorem w_in (s : Bool) : inV (.str (wOf s)) [.str "zeros", .str "sign"] = true := by cases s <;> decide +kernel
theorem scRead : FnScope ["text", "word", "_", "digits", "extents", "extent"] ["text"] (defScope sRead) := ⟨rfl, rfl, rfl, by decide +kernel, rfl, by decide +kernel, by decide +kernel⟩
theorem ok_read {f : Addr} {fd : FuncData} (F : Fun K "read" "Fill.read" sRead f fd) (T : Txt K mg C) (c0 : Mak P w K mg base 3 "Fill" C [.str "free", .non] (spInit C)) (c2 : Mak P w K mg base 3 "Fill" C [] (spInit C)) :
    FnOk P w K mg base CX0 5 f fd ["text"] (spRead C) := by
  refine F.ok scRead (fun vs H Q E h => ?_) (fun cdv A outer s H vs Q E hr h => ?_)
  · obtain ⟨t, rfl, _⟩ := h
    rfl
  · obtain ⟨t, rfl, ht, k⟩ := h
    refine ⟨_, pss_cons (ps_if (pt_not (pt_val (pe_callB call_isi (by rfl) T.bi.isinstance (by decide +kernel) (pa_cons (pv 0) (pa_cons (pe_bltn (v := .ty "str") (by rfl) T.bi.str (by decide +kernel) rfl) pa_nil))))) (pss_one ps_never) pss_nil)
      (pss_cons (ps_if (pt_cmpR op_eq (pv 0) (pe_gl (by rfl) T.mgFREE) (nomark _)) (pss_one (ps_ret (pe_n0 c0 hr (by decide) (by rfl)))) pss_nil)
      (pss_cons (ps_asg (pe_partition (pv 0) pe_str) (pg_tup rfl (pgs_cons (pg_name (i := 1) scRead.nd rfl (.inl rfl)) (pgs_cons (pg_name (i := 2) scRead.nd rfl (.inl rfl)) (pgs_cons (pg_name (i := 3) scRead.nd rfl (.inl rfl)) pgs_nil)))))
      (pss_cons (ps_setLc (i := 4) (own := [("extent", 5)]) (g := gName 5) (tt := tYes) rfl scRead.nd rfl rfl (sw_true rfl rfl rfl (by decide +kernel))
          (pi_range2 (by rfl) T.bi.range (pa_cons (pe_gl (by rfl) T.mgLE) (pa_cons (pe_op op_add (pe_gl (by rfl) T.mgMB) pe_int) pa_nil)))
          (blkOk_by (N := ["text", "word", "_", "digits", "extents", "extent"]) (sc := defScope sRead) (by decide +kernel)) (fun _ _ _ _ _ => pg_name (i := 5) scRead.nd rfl (Or.inl rfl)) (fun _ _ _ _ _ => pts_nil)
          (fun _ _ _ _ _ => pe_callTy call_str_int (by rfl) T.bi.str (by decide +kernel) (pa_cons (pv 5) pa_nil)))
      (pss_cons (ps_if (PW.pt (pw_or (pt_cmpR op_notIn_seq (pv 1) (pe_tup (pa_cons (pe_gl (by rfl) T.mgZEROS) (pa_cons (pe_gl (by rfl) T.mgSIGN) pa_nil))) (by rfl)) (pw_or1 (pt_cmpR op_notIn_seq (pv 3) (pv 4) (by rfl))))) (pss_one ps_never) pss_nil)
      (pss_one (ps_ret (pe_n c2 hr (by decide) (by rfl) (pa_cons (pv 1) (pa_cons (pe_callTy call_int_str (by rfl) T.bi.int (by decide +kernel) (pa_cons (pv 3) pa_nil)) pa_nil))))))))), ?_⟩
    refine ⟨_, rfl, _, _, _, _, true, rfl, .ty "str", .base (.str _), kit_ty (by decide +kernel), _, rfl, ?_⟩
    refine iteF ⟨_, rfl, rfl, _, rfl, ?_⟩
    cases t with
    | free =>
      refine iteT ?_
      exact made (t := .free) True.intro rfl k
    | f s n =>
      have hn := (show 3 ≤ n ∧ n ≤ 128 from ht)
      rw [str_ne hn]
      refine iteF ⟨_, rfl, ⟨_, rfl⟩, _, _, rfl, rfl, (by decide +kernel), line_ge (by have := str_len ht; omega), fun q hq => ?_⟩
      rw [part_f hn]
      refine ⟨q, _, rfl, SqT.of upd_same, rfl, _, _, rfl, _, _, rfl, _, _, rfl, rfl, ?_⟩
      have s1 := same_new (o := .tup [.str (wOf s), .str " ", .str (toString n)]) hq
      -- the texts of 3 to 128
      refine ⟨_, _, rfl, rfl, 3, 129, rfl, ⟨by decide, by decide, by decide, by decide⟩, fun D hD => lc_range (lo := 3) (n := 126) (fun i H' => H' D = some (.lst (exts i)) ∧ L2.Same H H')
        ⟨upd_same, s1.trans (same_new hD)⟩ (fun i H' hi ⟨e1, e2⟩ => ?_) (fun H' ⟨e1, e2⟩ => ?_)⟩
      · refine ⟨rfl, _, rfl, _, rfl, log_small (by omega), exts i, e1, line_gt (by rw [exts_len]; omega), ?_⟩
        refine ⟨by rw [exts_more]; exact upd_same, fun b o e => ?_⟩
        have nb : b ≠ D := fun z => by
          subst z
          have := s1 _ _ e
          rw [hD] at this
          cases this
        rw [upd_ne nb]
        exact e2 b o e
      · refine ⟨_, rfl, (by show 2 ≤ sizeLine; decide), fun q2 hq2 => ?_⟩
        refine ⟨q2, _, rfl, .inr (SqT.of upd_same), rfl, rfl, _, rfl, ?_⟩
        rw [w_in]
        refine iteF ⟨_, rfl, _, rfl, D, _, rfl, .inl (SqL.of ?_), rfl, exts_flat 126, _, rfl, ?_⟩
        · rw [upd_ne (ne_of_none e1 hq2)]
          exact e1
        · rw [exts_in hn]
          refine iteF ⟨_, rfl, _, rfl, _, n, rfl, num_int hn, (by have := num_len hn; show (toString n : Str).length ≤ 640; omega), ?_⟩
          exact made (t := .f s n) ht (w_of s n).symm fun v H2 s2 h2 => k v H2 ((e2.trans (same_new hq2)).trans s2) h2
end
end K12
set_option Elab.async false
set_option linter.all false
set_option maxRecDepth 100000
set_option maxHeartbeats 4000000
namespace UL
open PySem L2
theorem Stay.seq {K : PySem.W.Frag} {p l : Addr} {H H' : Hp} {xs : List V} (s : Stay p H H') (n : l ≠ p) (h : SqL K H l xs) : SqL K H' l xs := by
  rcases h with (h | ⟨o, h⟩) | h
  · exact .inl (.inl (s _ _ n h))
  · exact .inl (.inr ⟨o, s _ _ n h⟩)
  · exact .inr h
theorem Stay.tup {p l : Addr} {H H' : Hp} {xs : List V} (s : Stay p H H') (hp : Pot H p) (h : H l = some (.tup xs)) : H' l = some (.tup xs) := by
  obtain ⟨a, b, e, _⟩ := hp
  exact s _ _ (ne_of h e (by intro z; cases z)) h
/-- _law_pick(pot, some): one of them -/
def spPick1 (K : PySem.W.Frag) : Sp := fun vs H Q _ => ∃ (p l : Addr) (xs : List V), vs = [.ref p, .ref l] ∧ Pot H p ∧ l ≠ p ∧ SqL K H l xs ∧ 0 < xs.length ∧ xs.length < 1073741824 ∧
  ∀ (i : Nat) (v : V) (H' : Hp), xs[i]? = some v → Pot H' p → Stay p H H' → Q v H'
/-- _law_pot(script, k): a new pot -/
def spPot (K : PySem.W.Frag) : Sp := fun vs H Q _ => ∃ (a : Addr) (ns : List Int) (k : Int), vs = [.ref a, .int k] ∧ SqL K H a (ns.map V.int) ∧ 0 ≤ k ∧ k ≤ 100 ∧
  ∀ (p : Addr) (H' : Hp), H p = none → Pot H' p → L2.Same H H' → Q (.ref p) H'
end UL
namespace K12
open PySem L2 UL
abbrev sFill : Stmt := top 19
abbrev sMade : Stmt := top 20
section
variable {P : Program} {w : World} {K : PySem.W.Frag} {mg : Str → Option Value} {base : Heap} {C : Addr}
theorem scPick : FnScope ["_law_pot_here", "_law_some"] ["_law_pot_here", "_law_some"] (defScope sPick) := ⟨rfl, rfl, rfl, by decide +kernel, rfl, by decide +kernel, by decide +kernel⟩
theorem ok_pick {f : Addr} {fd : FuncData} (F : Fun K "_law_pick" "_law_pick" sPick f fd) (B : Bi mg) (cd : Cal P w K mg base 1 "_law_draw" spDraw) : FnOk P w K mg base CX0 2 f fd ["_law_pot_here", "_law_some"] (spPick1 K) := by
  refine F.ok scPick (fun vs H Q E h => ?_) (fun cdv A outer s H vs Q E hr h => ?_)
  · obtain ⟨p, l, xs, rfl, _⟩ := h
    rfl
  · obtain ⟨p, l, xs, rfl, hp, hne, hS, h0, h1, k⟩ := h
    refine ⟨_, pss_one (ps_ret (pe_ix ix_list (pv 1) (pe_c cd hr (by decide) (by rfl) (pa_cons (pv 0) (pa_cons (pe_callB call_len_seq (by rfl) B.len PySem.boot_len (pa_cons (pv 1) pa_nil)) pa_nil))) (fun _ _ => rfl))), ?_⟩
    refine ⟨_, rfl, _, rfl, _, rfl, l, xs, rfl, .inl hS, p, (xs.length : Int), rfl, hp, by omega, by omega, fun d H' d0 d1 hp' st => ?_⟩
    obtain ⟨j, rfl⟩ : ∃ j : Nat, d = (j : Int) := ⟨d.toNat, by omega⟩
    have hj : j < xs.length := by omega
    exact ⟨l, xs, _, xs[j], rfl, rfl, st.seq hne hS, atI_nat (List.getElem?_eq_getElem hj), k j _ H' (List.getElem?_eq_getElem hj) hp' st⟩
theorem scPot : FnScope ["_law_script", "_law_k", "_law_cell"] ["_law_script", "_law_k"] (defScope sPot) := ⟨rfl, rfl, rfl, by decide +kernel, rfl, by decide +kernel, by decide +kernel⟩
theorem pot_b (z k : Int) : 0 ≤ (z % 2147483549 + 7) * (2 * k + 3) ^ 3 % 2147483477 + 1 ∧ (z % 2147483549 + 7) * (2 * k + 3) ^ 3 % 2147483477 + 1 < 4294967296 := by
  have h1 := Int.emod_nonneg ((z % 2147483549 + 7) * (2 * k + 3) ^ 3) (show (2147483477 : Int) ≠ 0 by decide)
  have h2 := Int.emod_lt_of_pos ((z % 2147483549 + 7) * (2 * k + 3) ^ 3) (show (0 : Int) < 2147483477 by decide)
  omega
theorem ok_pot {f : Addr} {fd : FuncData} (F : Fun K "_law_pot" "_law_pot" sPot f fd) (B : Bi mg) : FnOk P w K mg base CX0 1 f fd ["_law_script", "_law_k"] (spPot K) := by
  refine F.ok scPot (fun vs H Q E h => ?_) (fun cdv A outer s H vs Q E hr h => ?_)
  · obtain ⟨a, ns, k, rfl, _⟩ := h
    rfl
  · obtain ⟨a, ns, i, rfl, hS, i0, i1, k⟩ := h
    refine ⟨_, pss_cons (ps_set (i := 2) scPot.nd rfl (.inl rfl) (pe_op op_add (pe_op op_mul pe_int (pv 1)) pe_int))
      (pss_cons (ps_if (pt_cmpR op_lt (pv 1) (pe_callB call_len_seq (by rfl) B.len PySem.boot_len (pa_cons (pv 0) pa_nil)) (nomark _))
        (pss_one (ps_set (i := 2) scPot.nd rfl (.inl rfl) (pe_callB call_abs (by rfl) B.abs (by decide +kernel) (pa_cons (pe_ix ix_list (pv 0) (pv 1) (fun _ _ => rfl)) pa_nil)))) pss_nil)
      (pss_one (ps_ret (pe_lst (pa_cons (pe_callB (call_max2 rfl) (by rfl) B.max (by decide +kernel) (pa_cons pe_int (pa_cons (pe_op op_sub (pv 2) (pe_op op_pow pe_int pe_int)) pa_nil)))
        (pa_cons (pe_op op_add (pe_op op_mod (pe_op op_mul (pe_callTy call_int1 (by rfl) B.int (by decide +kernel) (pa_cons (pe_op op_add (pe_op op_mod (pe_callTy call_int1 (by rfl) B.int (by decide +kernel) (pa_cons (pv 2) pa_nil)) pe_int) pe_int) pa_nil))
          (pe_op op_pow (pe_op op_add (pe_op op_mul pe_int (pv 1)) pe_int) pe_int)) pe_int) pe_int) pa_nil)))))), ?_⟩
    refine ⟨_, rfl, _, _, rfl, rfl, .inl ⟨by decide, by decide⟩, _, _, rfl, rfl, ?_⟩
    refine ⟨_, rfl, _, rfl, a, _, rfl, .inl hS, _, _, rfl, rfl, _, rfl, ?_⟩
    have m1 : ∀ z : Int, -(2 ^ 64) < z % 2147483549 + 7 ∧ z % 2147483549 + 7 < 2 ^ 64 := fun z => by
      have h1 := Int.emod_nonneg z (show (2147483549 : Int) ≠ 0 by decide)
      have h2 := Int.emod_lt_of_pos z (show (0 : Int) < 2147483549 by decide)
      omega
    by_cases c : i < ((ns.map V.int).length : Int)
    · rw [decide_eq_true c]
      rw [List.length_map] at c
      obtain ⟨j, rfl⟩ : ∃ j : Nat, i = (j : Int) := ⟨i.toNat, by omega⟩
      have hj : j < ns.length := by omega
      refine iteT ⟨_, rfl, _, rfl, a, _, _, V.int ns[j], rfl, rfl, hS, atI_nat (by rw [List.getElem?_map, List.getElem?_eq_getElem hj]; rfl), _, rfl, ?_⟩
      generalize (if ns[j] < 0 then -ns[j] else ns[j]) = z
      refine ⟨_, rfl, _, _, rfl, rfl, ⟨by decide, by decide, by decide⟩, _, _, rfl, rfl, 0, _, rfl, ?_⟩
      refine ⟨_, rfl, .inl ⟨z, rfl, _, _, rfl, rfl, (by show (0 : Int) < 2147483549; decide), _, _, rfl, rfl, .inl ⟨_, rfl, _, rfl, _, _, rfl, rfl, .inl ⟨by decide, by decide⟩, _, _, rfl, rfl, _, _, rfl, rfl, ⟨by decide, by decide, by omega⟩, _, _, rfl, rfl,
        .inl (m1 z), _, _, rfl, rfl, (by show (0 : Int) < 2147483477; decide), _, _, rfl, rfl, (by show 2 ≤ sizeLine; decide), fun q hq => ?_⟩⟩⟩
      exact k q _ hq ⟨_, _, upd_same, pot_b z _⟩ (same_new hq)
    · rw [decide_eq_false c]
      refine iteF ?_
      refine ⟨_, rfl, _, _, rfl, rfl, ⟨by decide, by decide, by decide⟩, _, _, rfl, rfl, 0, _, rfl, ?_⟩
      refine ⟨_, rfl, .inl ⟨29 * i + 8, rfl, _, _, rfl, rfl, (by show (0 : Int) < 2147483549; decide), _, _, rfl, rfl, .inl ⟨_, rfl, _, rfl, _, _, rfl, rfl, .inl ⟨by decide, by decide⟩, _, _, rfl, rfl, _, _, rfl, rfl, ⟨by decide, by decide, by omega⟩, _, _, rfl, rfl,
        .inl (m1 _), _, _, rfl, rfl, (by show (0 : Int) < 2147483477; decide), _, _, rfl, rfl, (by show 2 ≤ sizeLine; decide), fun q hq => ?_⟩⟩⟩
      exact k q _ hq ⟨_, _, upd_same, pot_b _ _⟩ (same_new hq)
end
end K12
set_option Elab.async false
set_option linter.all false
set_option maxRecDepth 100000
set_option maxHeartbeats 4000000
namespace K12
open PySem L2 UL
section
variable {P : Program} {w : World} {K : PySem.W.Frag} {mg : Str → Option Value} {base : Heap} {C : Addr}
/-- the law's own word for a fill: a tuple of its word and its extent -/
abbrev TellAt (H : Hp) (q : Addr) (t : FT) : Prop := H q = some (.tup [.str t.w, t.e])
/-- _law_fill(pot, near) -/
def spFill : Sp := fun vs H Q _ => ∃ (p : Addr) (near : Int), vs = [.ref p, .int near] ∧ Pot H p ∧ ∀ (q : Addr) (t : FT) (H' : Hp), t.ok → TellAt H' q t → Pot H' p → Stay p H H' → Q (.ref q) H'
theorem scFill : FnScope ["_law_pot_here", "_law_near", "_law_kind", "_law_reach"] ["_law_pot_here", "_law_near"] (defScope sFill) := ⟨rfl, rfl, rfl, by decide +kernel, rfl, by decide +kernel, by decide +kernel⟩
theorem pot_ne {H : Hp} {p l : Addr} (hp : Pot H p) (hl : H l = none) : l ≠ p := by
  obtain ⟨a, b, e, _⟩ := hp
  exact (ne_of_none e hl).symm
theorem stay_new {H : Hp} {p l : Addr} {o : HO} (hl : H l = none) : Stay p H (upd H l o) := Same.stay (same_new hl) p
theorem ok_fill {f : Addr} {fd : FuncData} (F : Fun K "_law_fill" "_law_fill" sFill f fd) (B : Bi mg) (cd : Cal P w K mg base 1 "_law_draw" spDraw) (cp : Cal P w K mg base 2 "_law_pick" (spPick1 K)) :
    FnOk P w K mg base CX0 3 f fd ["_law_pot_here", "_law_near"] spFill := by
  refine F.ok scFill (fun vs H Q E h => ?_) (fun cdv A outer s H vs Q E hr h => ?_)
  · obtain ⟨p, near, rfl, _⟩ := h
    rfl
  · obtain ⟨p, near, rfl, hp, k⟩ := h
    refine ⟨_, pss_cons (ps_set (i := 2) scFill.nd rfl (.inl rfl) (pe_c cp hr (by decide) (by rfl) (pa_cons (pv 0) (pa_cons (pe_lst (pa_cons pe_str (pa_cons pe_str (pa_cons pe_str (pa_cons pe_str (pa_cons pe_str pa_nil)))))) pa_nil))))
      (pss_cons (ps_if (pt_cmpR op_eq (pv 2) pe_str (nomark _)) (pss_one (ps_ret (pe_tup (pa_cons pe_str (pa_cons pe_non pa_nil))))) pss_nil)
      (pss_cons (ps_set (i := 3) scFill.nd rfl (.inl rfl) (pe_c cp hr (by decide) (by rfl) (pa_cons (pv 0) (pa_cons (pe_lst (pa_cons (pv 1) (pa_cons (pe_op op_add (pv 1) pe_int) (pa_cons (pe_op op_sub (pv 1) pe_int)
          (pa_cons (pe_op op_add pe_int (pe_c cd hr (by decide) (by rfl) (pa_cons (pv 0) (pa_cons pe_int pa_nil)))) (pa_cons pe_int (pa_cons pe_int (pa_cons pe_int (pa_cons pe_int pa_nil))))))))) pa_nil))))
      (pss_one (ps_ret (pe_tup (pa_cons (pv 2) (pa_cons (pe_callB (call_max2 rfl) (by rfl) B.max (by decide +kernel) (pa_cons pe_int (pa_cons (pe_callB (call_min2 rfl) (by rfl) B.min (by decide +kernel) (pa_cons pe_int (pa_cons (pv 3) pa_nil))) pa_nil))) pa_nil))))))), ?_⟩
    refine ⟨_, rfl, (by show 5 ≤ sizeLine; decide), fun l hl => ⟨p, l, _, rfl, hp.same (same_new hl), pot_ne hp hl, SqL.of upd_same, by decide, by decide, fun i v H1 hv p1 s1 => ?_⟩⟩
    have st1 : Stay p H H1 := (stay_new hl).trans s1
    have hw : v = .str "free" ∨ ∃ s : Bool, v = .str (wOf s) := by
      have := List.mem_of_getElem? hv
      simp only [List.mem_cons, List.not_mem_nil, or_false] at this
      rcases this with e | e | e | e | e
      · exact .inl e
      · exact .inr ⟨false, e⟩
      · exact .inr ⟨true, e⟩
      · exact .inr ⟨false, e⟩
      · exact .inr ⟨true, e⟩
    rcases hw with rfl | ⟨sg, rfl⟩
    · refine ⟨_, rfl, rfl, _, rfl, iteT ⟨(by show 2 ≤ sizeLine; decide), fun q hq => ?_⟩⟩
      exact k q .free _ True.intro upd_same (p1.same (same_new hq)) (st1.trans (stay_new hq))
    · have e0 : decide (V.str (wOf sg) = V.str "free") = false := by
        rw [← w_of sg 3]
        exact w_free
      refine ⟨_, rfl, rfl, _, rfl, ?_⟩
      rw [e0]
      refine iteF ⟨_, rfl, _, rfl, _, rfl, _, _, rfl, rfl, _, rfl, _, _, rfl, rfl, _, rfl, p, 126, rfl, p1, by decide, by decide, fun d H2 d0 d1 p2 s2 => ⟨_, _, rfl, rfl, (by show 8 ≤ sizeLine; decide), fun l2 hl2 =>
        ⟨p, l2, _, rfl, p2.same (same_new hl2), pot_ne p2 hl2, SqL.of upd_same, (by show 0 < 8; decide), (by show 8 < 1073741824; decide), fun i2 v2 H3 hv2 p3 s3 => ?_⟩⟩⟩
      obtain ⟨z, rfl⟩ : ∃ z, v2 = .int z := by
        have := List.mem_of_getElem? hv2
        simp only [List.mem_cons, List.not_mem_nil, or_false] at this
        rcases this with e | e | e | e | e | e | e | e <;> exact ⟨_, e⟩
      have st3 : Stay p H H3 := ((st1.trans s2).trans (stay_new hl2)).trans s3
      refine ⟨_, rfl, _, rfl, _, _, rfl, _, _, rfl, ?_⟩
      have hm : ∀ m : Int, m = (if (if z < 128 then z else 128) > 3 then (if z < 128 then z else 128) else 3) → 3 ≤ m ∧ m ≤ 128 := by
        intro m em
        by_cases c1 : z < 128
        · rw [if_pos c1] at em
          by_cases c2 : z > 3
          · rw [if_pos c2] at em
            omega
          · rw [if_neg c2] at em
            omega
        · rw [if_neg c1] at em
          rw [if_pos (by decide)] at em
          omega
      have hm2 := hm _ rfl
      generalize (if (if z < 128 then z else 128) > 3 then (if z < 128 then z else 128) else 3) = m at hm2 ⊢
      refine ⟨(by show 2 ≤ sizeLine; decide), fun q hq => ?_⟩
      exact k q (.f sg m) _ hm2 (by show upd _ _ _ _ = some (HO.tup [.str (FT.f sg m).w, .int m]); rw [w_of]; exact upd_same) (p3.same (same_new hq)) (st3.trans (stay_new hq))
/-- _law_made(pot, told) -/
def spMade (C : Addr) : Sp := fun vs H Q _ => ∃ (p q : Addr) (t : FT), vs = [.ref p, .ref q] ∧ Pot H p ∧ TellAt H q t ∧ t.ok ∧ ∀ (v : V) (H' : Hp), FillAt C H' v t → Pot H' p → Stay p H H' → Q v H'
def gEW (vs zs : List V) : List V := vs ++ zs.reverse
theorem scMade : FnScope ["_law_pot_here", "_law_told", "_law_kind", "_law_reach"] ["_law_pot_here", "_law_told"] (defScope sMade) := ⟨rfl, rfl, rfl, by decide +kernel, rfl, by decide +kernel, by decide +kernel⟩
theorem ok_made {f : Addr} {fd : FuncData} (F : Fun K "_law_made" "_law_made" sMade f fd) (T : Txt K mg C) (cd : Cal P w K mg base 1 "_law_draw" spDraw) (cp : Cal P w K mg base 2 "_law_pick" (spPick1 K))
    (c0 : Mak P w K mg base 3 "Fill" C [.str "free", .non] (spInit C)) (c1 : Mak P w K mg base 3 "Fill" C [.non] (spInit C)) (c2 : Mak P w K mg base 3 "Fill" C [] (spInit C)) (cK : MakK P w K mg base 3 "Fill" C ["extent", "word"] gEW (spInit C)) :
    FnOk P w K mg base CX0 5 f fd ["_law_pot_here", "_law_told"] (spMade C) := by
  refine F.ok scMade (fun vs H Q E h => ?_) (fun cdv A outer s H vs Q E hr h => ?_)
  · obtain ⟨p, q, t, rfl, _⟩ := h
    rfl
  · obtain ⟨p, q, t, rfl, hp, hq, ht, k⟩ := h
    refine ⟨_, pss_cons (ps_asg (pv 1) (pg_tup rfl (pgs_cons (pg_name (i := 2) scMade.nd rfl (.inl rfl)) (pgs_cons (pg_name (i := 3) scMade.nd rfl (.inl rfl)) pgs_nil))))
      (pss_cons (ps_if (pt_cmpR op_eq (pv 2) pe_str (nomark _)) (pss_one (ps_ret (pe_c cp hr (by decide) (by rfl) (pa_cons (pv 0) (pa_cons (pe_lst (pa_cons (pe_n0 c0 hr (by decide) (by rfl)) (pa_cons (pe_n c1 hr (by decide) (by rfl) (pa_cons pe_str pa_nil))
          (pa_cons (pe_nK cK hr (by decide) (by rfl) (pk_cons pe_non (pk_cons pe_str pk_nil))) (pa_cons (pe_n c2 hr (by decide) (by rfl) (pa_cons pe_str (pa_cons pe_non pa_nil))) pa_nil))))) pa_nil))))) pss_nil)
      (pss_one (ps_ret (pe_ifExp (pt_cmpR op_eq (pe_c cd hr (by decide) (by rfl) (pa_cons (pv 0) (pa_cons pe_int pa_nil))) pe_int (nomark _)) (pe_n c2 hr (by decide) (by rfl) (pa_cons (pv 2) (pa_cons (pv 3) pa_nil)))
        (pe_nK cK hr (by decide) (by rfl) (pk_cons (pv 3) (pk_cons (pv 2) pk_nil))))))), ?_⟩
    refine ⟨_, rfl, q, _, rfl, SqT.of hq, rfl, _, _, rfl, _, _, rfl, rfl, _, rfl, rfl, _, rfl, ?_⟩
    cases t with
    | free =>
      refine iteT ⟨_, rfl, ?_⟩
      intro x1 d1 nx1 nd1 ne1
      refine made1 nx1 nd1 (t := .free) True.intro rfl fun H1 s1 h1 => ⟨rfl, ?_⟩
      intro x2 d2 nx2 nd2 ne2
      refine made1 nx2 nd2 (t := .free) True.intro rfl fun H2 s2 h2 => ⟨rfl, ?_⟩
      refine ⟨rfl, rfl, ?_⟩
      intro x3 d3 nx3 nd3 ne3
      refine made1 nx3 nd3 (t := .free) True.intro rfl fun H3 s3 h3 => ⟨rfl, ?_⟩
      intro x4 d4 nx4 nd4 ne4
      refine made1 nx4 nd4 (t := .free) True.intro rfl fun H4 s4 h4 => ⟨rfl, ?_⟩
      have sm : L2.Same H H4 := ((s1.trans s2).trans s3).trans s4
      have p4 := hp.same sm
      refine ⟨(by show 4 ≤ sizeLine; decide), fun l hl => ⟨p, l, _, rfl, p4.same (same_new hl), pot_ne p4 hl, SqL.of upd_same, (by show 0 < 4; decide), (by show 4 < 1073741824; decide), fun i v H5 hv p5 s5 => ?_⟩⟩
      have hf : FillAt C H4 v .free := by
        have := List.mem_of_getElem? hv
        simp only [List.mem_cons, List.not_mem_nil, or_false] at this
        rcases this with e | e | e | e <;> subst e
        · exact ((h1.same s2).same s3).same s4
        · exact (h2.same s3).same s4
        · exact h3.same s4
        · exact h4
      exact k v H5 ((hf.same (same_new hl)).stay (p4.same (same_new hl)) s5) p5 ((Same.stay sm p).trans ((stay_new hl).trans s5))
    | f sg n =>
      have e0 : decide (V.str (FT.f sg n).w = V.str "free") = false := w_free
      rw [e0]
      refine iteF ⟨_, rfl, p, 2, rfl, hp, by decide, by decide, fun d H1 d0 d1 p1 s1 => ⟨rfl, _, rfl, ?_⟩⟩
      cases c : decide (V.int d = V.int 0) with
      | true =>
        refine iteT ⟨_, rfl, _, rfl, ?_⟩
        exact made (t := .f sg n) ht rfl fun v H2 s2 h2 => k v H2 h2 (p1.same s2) (s1.trans (Same.stay s2 p))
      | false =>
        refine iteF ⟨_, rfl, _, rfl, rfl, rfl, ?_⟩
        exact made (t := .f sg n) ht rfl fun v H2 s2 h2 => k v H2 h2 (p1.same s2) (s1.trans (Same.stay s2 p))
end
end K12
set_option Elab.async false
set_option linter.all false
set_option maxRecDepth 100000
set_option maxHeartbeats 4000000
namespace K12
open PySem L2 UL
abbrev sBits : Stmt := top 21
abbrev sCutL : Stmt := top 22
abbrev sCovL : Stmt := top 23
abbrev sText : Stmt := top 24
section
variable {P : Program} {w : World} {K : PySem.W.Frag} {mg : Str → Option Value} {base : Heap} {C : Addr}
def bitsN (t : FT) (lo : Int) : Nat := match t with
  | .free => 0
  | .f _ n => (n - lo).toNat
/-- the bits of a fill from lo on, each with the fill's word -/
def bitsL (t : FT) (lo : Int) : List (Int × Str) := (List.range (bitsN t lo)).map fun j : Nat => (lo + ((j : Nat) : Int), t.w)
theorem bitsL_at {t : FT} {lo : Int} {j : Nat} (h : j < bitsN t lo) : (bitsL t lo)[j]? = some (lo + ((j : Nat) : Int), t.w) := by
  unfold bitsL
  rw [List.getElem?_map, List.getElem?_range h]
  rfl
theorem bitsL_len (t : FT) (lo : Int) : (bitsL t lo).length = bitsN t lo := by simp [bitsL]
/-- _law_bits(told, least) -/
def spBits : Sp := fun vs H Q _ => ∃ (q : Addr) (t : FT) (lo : Int), vs = [.ref q, .int lo] ∧ TellAt H q t ∧ t.ok ∧ 0 ≤ lo ∧ lo ≤ 1000 ∧ ∀ (l : Addr) (H' : Hp), L2.Same H H' → H l = none → PairsAt H' l (bitsL t lo) → Q (.ref l) H'
theorem scBits : FnScope ["_law_told", "_law_least", "_law_kind", "_law_reach", "_law_bit"] ["_law_told", "_law_least"] (defScope sBits) := ⟨rfl, rfl, rfl, by decide +kernel, rfl, by decide +kernel, by decide +kernel⟩
theorem ok_bits {f : Addr} {fd : FuncData} (F : Fun K "_law_bits" "_law_bits" sBits f fd) (B : Bi mg) : FnOk P w K mg base CX0 1 f fd ["_law_told", "_law_least"] spBits := by
  refine F.ok scBits (fun vs H Q E h => ?_) (fun cdv A outer s H vs Q E hr h => ?_)
  · obtain ⟨q, t, lo, rfl, _⟩ := h
    rfl
  · obtain ⟨q, t, lo, rfl, hq, ht, l0, l1, k⟩ := h
    refine ⟨_, pss_cons (ps_asg (pv 0) (pg_tup rfl (pgs_cons (pg_name (i := 2) scBits.nd rfl (.inr rfl)) (pgs_cons (pg_name (i := 3) scBits.nd rfl (.inl rfl)) pgs_nil))))
      (pss_one (ps_ret (pe_ifExp (pt_cmpR op_eq (pv 2) pe_str (nomark _)) (pe_lst pa_nil)
        (pe_lc (own := [("_law_bit", 4)]) (g := gName 4) (tt := tYes) rfl scBits.nd (pi_range2 (by rfl) B.range (pa_cons (pv 1) (pa_cons (pv 3) pa_nil)))
          (blkOk_by (N := ["_law_told", "_law_least", "_law_kind", "_law_reach", "_law_bit"]) (sc := defScope sBits) (by decide +kernel)) (fun _ _ _ _ _ => pg_name (i := 4) scBits.nd rfl (Or.inl rfl)) (fun _ _ _ _ _ => pts_nil)
          (fun _ _ _ _ _ => pe_tup (pa_cons (pv 4) (pa_cons (pv 2) pa_nil))))))), ?_⟩
    refine ⟨_, rfl, q, _, rfl, SqT.of hq, rfl, _, _, rfl, _, _, rfl, rfl, _, rfl, rfl, _, rfl, ?_⟩
    cases t with
    | free =>
      refine iteT ⟨(by show 0 ≤ sizeLine; exact Nat.zero_le _), fun l hl => ?_⟩
      exact k l _ (same_new hl) hl ⟨[], upd_same, rfl, fun j a x e _ => by simp at e⟩
    | f sg n =>
      obtain ⟨n0, n1⟩ := (show 3 ≤ n ∧ n ≤ 128 from ht)
      have e0 : decide (V.str (FT.f sg n).w = V.str "free") = false := w_free
      rw [e0]
      refine iteF ⟨_, rfl, _, rfl, lo, n, rfl, ⟨by omega, by omega, by omega, by omega⟩, fun D hD => lc_range (lo := lo) (n := (n - lo).toNat)
        (fun i H' => L2.Same H H' ∧ ∃ ps : List Addr, H' D = some (.lst (ps.map V.ref)) ∧ ps.length = i ∧ ∀ (j : Nat) (a : Addr), ps[j]? = some a → a ≠ D ∧ H' a = some (.tup [.int (lo + ((j : Nat) : Int)), .str (FT.f sg n).w]))
        ⟨same_new hD, [], upd_same, rfl, fun j a e => by simp at e⟩ (fun i H' hi ⟨s1, ps, e1, e2, e3⟩ => ?_) (fun H' ⟨s1, ps, e1, e2, e3⟩ => ?_)⟩
      · refine ⟨rfl, _, rfl, _, rfl, (by show 2 ≤ sizeLine; decide), fun a ha => ⟨ps.map V.ref, ?_, line_gt (by rw [List.length_map]; omega), ?_⟩⟩
        · have nDa : D ≠ a := ne_of_none e1 ha
          rw [upd_ne nDa]
          exact e1
        · have nDa : D ≠ a := ne_of_none e1 ha
          refine ⟨fun b o e => ?_, ps ++ [a], ?_, by rw [List.length_append, e2]; rfl, fun j c ec => ?_⟩
          · have nb : b ≠ D := fun z => by
              subst z
              rw [hD] at e
              cases e
            rw [upd_ne nb, upd_ne (ne_of_none (s1 _ _ e) ha)]
            exact s1 b o e
          · rw [List.map_append]
            exact upd_same
          · by_cases hj : j < ps.length
            · rw [List.getElem?_append_left hj] at ec
              obtain ⟨h1, h2⟩ := e3 j c ec
              refine ⟨h1, ?_⟩
              rw [upd_ne h1, upd_ne (ne_of_none h2 ha)]
              exact h2
            · rw [List.getElem?_append_right (by omega)] at ec
              have hj0 : j - ps.length = 0 := by
                rcases Nat.eq_zero_or_pos (j - ps.length) with z | z
                · exact z
                · rw [List.getElem?_eq_none (show [a].length ≤ j - ps.length from z)] at ec
                  cases ec
              rw [hj0] at ec
              obtain rfl : a = c := Option.some.inj ec
              have ej : j = i := by omega
              subst ej
              exact ⟨nDa.symm, by rw [upd_ne nDa.symm]; exact upd_same⟩
      · refine k D H' s1 hD ⟨ps, e1, by rw [e2, bitsL_len]; rfl, fun j a x ea ex => ?_⟩
        obtain ⟨hj, _⟩ := List.getElem?_eq_some_iff.mp ea
        rw [bitsL_at (show j < bitsN (.f sg n) lo by show j < (n - lo).toNat; omega)] at ex
        cases ex
        exact (e3 j a ea).2
end
end K12
set_option Elab.async false
set_option linter.all false
set_option maxRecDepth 100000
set_option maxHeartbeats 4000000
namespace K12
open PySem L2 UL
section
variable {P : Program} {w : World} {K : PySem.W.Frag} {mg : Str → Option Value} {base : Heap} {C : Addr}
def intsV (lo : Int) (n : Nat) : List V := (List.range n).map fun j : Nat => V.int (lo + ((j : Nat) : Int))
theorem intsV_more (lo : Int) (n : Nat) : intsV lo (n + 1) = intsV lo n ++ [V.int (lo + ((n : Nat) : Int))] := by
  unfold intsV
  rw [List.range_succ, List.map_append]
  rfl
theorem intsV_len (lo : Int) (n : Nat) : (intsV lo n).length = n := by simp [intsV]
theorem intsV_eq (lo : Int) (n : Nat) : intsV lo n = (((List.range n).map fun j : Nat => lo + ((j : Nat) : Int)).map V.int) := by
  unfold intsV
  rw [List.map_map]
  rfl
/-- _law_cut(told, wide, room) -/
def spCutL : Sp := fun vs H Q _ => ∃ (q : Addr) (t : FT) (wi room : Int), vs = [.ref q, .int wi, .int room] ∧ TellAt H q t ∧ t.ok ∧ 2 ≤ wi ∧ wi ≤ room ∧ room ≤ 128 ∧ ∀ (q' : Addr) (H' : Hp), L2.Same H H' → TellAt H' q' (cutF t wi room) → Q (.ref q') H'
theorem scCutL : FnScope ["_law_told", "_law_wide", "_law_room", "_law_left", "_law_bit", "_law_kind"] ["_law_told", "_law_wide", "_law_room"] (defScope sCutL) := ⟨rfl, rfl, rfl, by decide +kernel, rfl, by decide +kernel, by decide +kernel⟩
/-- how many bits of t from wi on lie below room -/
def keptN (t : FT) (wi room : Int) : Nat := min (bitsN t wi) (room - wi).toNat
theorem kept_zero {t : FT} {wi room : Int} (hw : wi ≤ room) (h : keptN t wi room = 0) : cutF t wi room = .free := by
  cases t with
  | free => rfl
  | f s n =>
    have h' : min (n - wi).toNat (room - wi).toNat = 0 := h
    show (if (if n < room then n else room) ≤ wi then FT.free else FT.f s (if n < room then n else room)) = FT.free
    by_cases c : n < room
    · rw [if_pos c, if_pos (by omega)]
    · rw [if_neg c, if_pos (by omega)]
theorem kept_pos {t : FT} {wi room : Int} (hw : wi ≤ room) (h : keptN t wi room ≠ 0) : ∃ s n, t = .f s n ∧ cutF t wi room = .f s (wi + ((keptN t wi room - 1 : Nat) : Int) + 1) := by
  cases t with
  | free => exact absurd (show keptN .free wi room = 0 from Nat.zero_min _) h
  | f s n =>
    refine ⟨s, n, rfl, ?_⟩
    have h' : min (n - wi).toNat (room - wi).toNat ≠ 0 := h
    show (if (if n < room then n else room) ≤ wi then FT.free else FT.f s (if n < room then n else room)) = FT.f s (wi + ((min (n - wi).toNat (room - wi).toNat - 1 : Nat) : Int) + 1)
    by_cases c : n < room
    · rw [if_pos c, if_neg (by omega)]
      congr 1
      omega
    · rw [if_neg c, if_neg (by omega)]
      congr 1
      omega
theorem bitsN_le {t : FT} {wi : Int} (ht : t.ok) (w0 : 2 ≤ wi) : bitsN t wi ≤ 128 := by
  cases t with
  | free => exact Nat.zero_le _
  | f sg n =>
    obtain ⟨_, n1⟩ := (show 3 ≤ n ∧ n ≤ 128 from ht)
    show (n - wi).toNat ≤ 128
    omega
theorem kept_step (t : FT) (wi room : Int) (i : Nat) (hi : i < bitsN t wi) : min (i + 1) (room - wi).toNat = if wi + ((i : Nat) : Int) < room then i + 1 else min i (room - wi).toNat := by
  by_cases c : wi + ((i : Nat) : Int) < room
  · rw [if_pos c]
    omega
  · rw [if_neg c]
    omega
theorem ok_cutL {f : Addr} {fd : FuncData} (F : Fun K "_law_cut" "_law_cut" sCutL f fd) (cb : Cal P w K mg base 1 "_law_bits" spBits) : FnOk P w K mg base CX0 2 f fd ["_law_told", "_law_wide", "_law_room"] spCutL := by
  refine F.ok scCutL (fun vs H Q E h => ?_) (fun cdv A outer s H vs Q E hr h => ?_)
  · obtain ⟨q, t, wi, room, rfl, _⟩ := h
    rfl
  · obtain ⟨q, t, wi, room, rfl, hq, ht, w0, w1, r1, k⟩ := h
    refine ⟨_, pss_cons (ps_setLc (i := 3) (own := [("_law_bit", 4), ("_law_kind", 5)]) (g := gTup K 2 (gCons (gName 4) (gCons (gName 5) gNil))) (tt := tTest (tOp (rI0 fun i j => .bl (decide (i < j))) (tVar 4) (tVar 2))) rfl scCutL.nd rfl rfl (sw_true rfl rfl rfl (by decide +kernel))
        (pi_list (pe_c cb hr (by decide) (by rfl) (pa_cons (pv 0) (pa_cons (pv 1) pa_nil))))
        (blkOk_by (N := ["_law_told", "_law_wide", "_law_room", "_law_left", "_law_bit", "_law_kind"]) (sc := defScope sCutL) (by decide +kernel))
        (fun _ _ _ _ _ => pg_tup rfl (pgs_cons (pg_name (i := 4) scCutL.nd rfl (Or.inl rfl)) (pgs_cons (pg_name (i := 5) scCutL.nd rfl (Or.inl rfl)) pgs_nil)))
        (fun _ _ _ _ _ => pts_one (pt_cmpR op_lt (pv 4) (pv 2) (nomark _))) (fun _ _ _ _ _ => pv 4))
      (pss_one (ps_ret (pe_ifExp (pt_cmpR (op_eqD hr.units) (pv 3) (pe_lst pa_nil) (nomark _)) (pe_tup (pa_cons pe_str (pa_cons pe_non pa_nil)))
        (pe_tup (pa_cons (pe_ix ix_tup (pv 0) pe_int (fun _ _ => rfl)) (pa_cons (pe_op op_add (pe_ix ix_list (pv 3) (pe_un un_neg pe_int) (fun _ _ => rfl)) pe_int) pa_nil)))))), ?_⟩
    refine ⟨_, rfl, _, rfl, q, t, wi, rfl, hq, ht, by omega, by omega, fun l H1 s1 hl0 hl => ?_⟩
    obtain ⟨ps, e1, e2, e3⟩ := hl
    rw [bitsL_len] at e2
    refine ⟨l, rfl, ⟨_, SqL.of e1⟩, fun D hD => ?_⟩
    have nlD : l ≠ D := ne_of_none e1 hD
    refine lc_list (K := K) (a := l) (xs := ps.map V.ref) (fun i H' => H' D = some (.lst (intsV wi (min i (room - wi).toNat))) ∧ L2.Same H1 H')
      ⟨by rw [Nat.zero_min]; exact upd_same, same_new hD⟩ (fun i H' _ ⟨_, s2⟩ => SqL.of (s2 _ _ e1)) (fun i x H' hx ⟨d1, s2⟩ => ?_) (fun H' ⟨d1, s2⟩ => ?_)
    · rw [List.getElem?_map] at hx
      obtain ⟨a, ha, rfl⟩ := Option.map_eq_some_iff.mp hx
      obtain ⟨hi, _⟩ := List.getElem?_eq_some_iff.mp ha
      have hi2 : i < bitsN t wi := by omega
      have ta := s2 _ _ (e3 i a _ ha (bitsL_at hi2))
      have st := kept_step t wi room i hi2
      refine ⟨a, _, rfl, SqT.of ta, rfl, _, _, rfl, _, _, rfl, rfl, rfl, _, rfl, _, rfl, _, _, rfl, rfl, _, rfl, ?_⟩
      rw [st]
      dsimp only
      by_cases c : wi + ((i : Nat) : Int) < room
      · rw [decide_eq_true c, if_pos c]
        have em : min i (room - wi).toNat = i := by omega
        rw [em] at d1
        refine iteT ⟨_, rfl, _, d1, line_gt (by rw [intsV_len]; have := bitsN_le ht w0; omega), ?_, fun b o e => ?_⟩
        · rw [intsV_more]
          exact upd_same
        · have nb : b ≠ D := fun z => by
            subst z
            rw [hD] at e
            cases e
          rw [upd_ne nb]
          exact s2 b o e
      · rw [decide_eq_false c, if_neg c]
        exact iteF ⟨d1, s2⟩
    · rw [List.length_map, e2] at d1
      have d1 : H' D = some (.lst (intsV wi (keptN t wi room))) := d1
      have q2 : TellAt H' q t := s2 _ _ (s1 _ _ hq)
      have sHH : L2.Same H H' := s1.trans s2
      refine ⟨_, rfl, (by show 0 ≤ sizeLine; exact Nat.zero_le _), fun l2 hl2 => ?_⟩
      have d2 : upd H' l2 (.lst []) D = some (.lst (intsV wi (keptN t wi room))) := by
        rw [upd_ne (ne_of_none d1 hl2)]
        exact d1
      rw [intsV_eq] at d2
      refine ⟨_, _, .lst (SqL.of d2) (dp_ints _), .lst (SqL.of upd_same) .nil, shaped_list (k := 0) (fun d hd => ?_) (fun d hd => ?_) (by decide), shaped_list (k := 0) (fun d hd => nomatch hd) (fun d hd => nomatch hd) (by decide), _, rfl, ?_⟩
      · obtain ⟨z, _, rfl⟩ := List.mem_map.mp hd
        simp [PyData.canLay0]
      · obtain ⟨z, _, rfl⟩ := List.mem_map.mp hd
        simp [PyData.depth]
      have sH3 : L2.Same H (upd H' l2 (.lst [])) := sHH.trans (same_new hl2)
      by_cases c : keptN t wi room = 0
      · have ev : PyData.eqv (.list (((List.range (keptN t wi room)).map fun j : Nat => wi + ((j : Nat) : Int)).map PyData.int)) (.list []) = true := by
          rw [c]
          simp [PyData.eqv, PyData.eqvAll]
        rw [ev]
        refine iteT ⟨(by show 2 ≤ sizeLine; decide), fun q' hq' => k q' _ (sH3.trans (same_new hq')) ?_⟩
        rw [kept_zero w1 c]
        exact upd_same
      · have ev : PyData.eqv (.list (((List.range (keptN t wi room)).map fun j : Nat => wi + ((j : Nat) : Int)).map PyData.int)) (.list []) = false := by
          obtain ⟨m, em⟩ := Nat.exists_eq_succ_of_ne_zero c
          rw [em, List.range_succ_eq_map]
          simp [PyData.eqv, PyData.eqvAll]
        rw [ev]
        obtain ⟨sg, n, rfl, ec⟩ := kept_pos w1 c
        have q3 := same_new (o := .lst []) hl2 _ _ q2
        have d3 : upd H' l2 (.lst []) D = some (.lst (intsV wi (keptN (.f sg n) wi room - 1) ++ [V.int (wi + ((keptN (.f sg n) wi room - 1 : Nat) : Int))])) := by
          rw [← intsV_more, show keptN (.f sg n) wi room - 1 + 1 = keptN (.f sg n) wi room by omega, intsV_eq]
          exact d2
        refine iteF ⟨_, rfl, q, _, _, _, rfl, rfl, SqT.of q3, atI_nat (j := 0) rfl, _, rfl, _, rfl, D, _, _, _, rfl, rfl, SqL.of d3, atI_last _ _, _, _, rfl, rfl, (by show 2 ≤ sizeLine; decide), fun q' hq' => k q' _ (sH3.trans (same_new hq')) ?_⟩
        rw [ec]
        have ew : (FT.f sg (wi + ((keptN (.f sg n) wi room - 1 : Nat) : Int) + 1)).w = (FT.f sg n).w := (w_of sg _).trans (w_of sg n).symm
        show upd _ _ _ _ = some (HO.tup [.str (FT.f sg (wi + ((keptN (.f sg n) wi room - 1 : Nat) : Int) + 1)).w, .int _])
        rw [ew]
        exact upd_same
end
end K12
set_option Elab.async false
set_option linter.all false
set_option maxRecDepth 100000
set_option maxHeartbeats 4000000
namespace UL
open PySem L2
theorem room65 {k : Nat} {A : Around} (hr : Room k A) : A.units + 65 < cLine := by
  have := hr.un
  omega
/-- _ = .. for a list of bools that a comprehension fills -/
theorem take_more {α : Type} {xs : List α} {i : Nat} {x : α} (h : xs[i]? = some x) : xs.take (i + 1) = xs.take i ++ [x] := by
  rw [List.take_add_one, h]
  rfl
end UL
namespace K12
open PySem L2 UL
section
variable {P : Program} {w : World} {K : PySem.W.Frag} {mg : Str → Option Value} {base : Heap} {C : Addr}
def covL (t t' : FT) (lo : Int) : Bool := (bitsL t' lo).all fun x => decide (x ∈ bitsL t lo)
theorem w_inj {s s' : Bool} (h : wOf s = wOf s') : s = s' := by
  cases s <;> cases s'
  · rfl
  · exact absurd h (by decide +kernel)
  · exact absurd h (by decide +kernel)
  · rfl
theorem mem_bits {t : FT} {lo : Int} {x : Int × Str} : x ∈ bitsL t lo ↔ ∃ j : Nat, j < bitsN t lo ∧ x = (lo + ((j : Nat) : Int), t.w) := by
  unfold bitsL
  rw [List.mem_map]
  constructor
  · rintro ⟨j, hj, rfl⟩
    exact ⟨j, List.mem_range.mp hj, rfl⟩
  · rintro ⟨j, hj, rfl⟩
    exact ⟨j, List.mem_range.mpr hj, rfl⟩
/-- bit by bit, as the document says it at once -/
theorem covL_eq {t t' : FT} {lo : Int} (h : ∀ s n, t' = .f s n → lo < n) : covL t t' lo = covF t t' := by
  rw [Bool.eq_iff_iff]
  unfold covL
  rw [List.all_eq_true]
  cases t' with
  | free =>
    have e : covF t .free = true := by cases t <;> rfl
    rw [e]
    refine ⟨fun _ => rfl, fun _ x hx => ?_⟩
    obtain ⟨j, hj, _⟩ := mem_bits.mp hx
    exact absurd hj (Nat.not_lt_zero _)
  | f s' n' =>
    have h' := h s' n' rfl
    constructor
    · intro a
      have hx : (lo + (((n' - lo).toNat - 1 : Nat) : Int), (FT.f s' n').w) ∈ bitsL (.f s' n') lo := mem_bits.mpr ⟨(n' - lo).toNat - 1, by show (n' - lo).toNat - 1 < (n' - lo).toNat; omega, rfl⟩
      obtain ⟨j, hj, e⟩ := mem_bits.mp (of_decide_eq_true (a _ hx))
      obtain ⟨e1, e2⟩ := Prod.mk.inj e
      cases t with
      | free => exact absurd hj (Nat.not_lt_zero _)
      | f s n =>
        have hj' : j < (n - lo).toNat := hj
        rw [w_of, w_of] at e2
        have es := w_inj e2
        show (decide (s = s') && decide (n' ≤ n)) = true
        rw [decide_eq_true es.symm, decide_eq_true (show n' ≤ n by omega)]
        rfl
    · intro c x hx
      cases t with
      | free => cases c
      | f s n =>
        have c' : (decide (s = s') && decide (n' ≤ n)) = true := c
        rw [Bool.and_eq_true, decide_eq_true_iff, decide_eq_true_iff] at c'
        obtain ⟨rfl, hn⟩ := c'
        obtain ⟨j, hj, rfl⟩ := mem_bits.mp hx
        have hj' : j < (n' - lo).toNat := hj
        refine decide_eq_true (mem_bits.mpr ⟨j, by show j < (n - lo).toNat; omega, ?_⟩)
        rw [w_of, w_of]
/-- _law_covers(told, mate, least) -/
def spCovL : Sp := fun vs H Q _ => ∃ (q q2 : Addr) (t t' : FT) (lo : Int), vs = [.ref q, .ref q2, .int lo] ∧ TellAt H q t ∧ TellAt H q2 t' ∧ t.ok ∧ t'.ok ∧ 0 ≤ lo ∧ lo ≤ 1000 ∧ ∀ H' : Hp, L2.Same H H' → Q (.bl (covL t t' lo)) H'
theorem scCovL : FnScope ["_law_told", "_law_mate", "_law_least", "_law_own", "_law_pair"] ["_law_told", "_law_mate", "_law_least"] (defScope sCovL) := ⟨rfl, rfl, rfl, by decide +kernel, rfl, by decide +kernel, by decide +kernel⟩
theorem w_lay (t : FT) : (PyData.str t.w).canLay0 = true := by
  cases t with
  | free =>
    show (PyData.str "free").canLay0 = true
    decide +kernel
  | f s n =>
    cases s
    · show (PyData.str "zeros").canLay0 = true
      decide +kernel
    · show (PyData.str "sign").canLay0 = true
      decide +kernel
theorem bits_shaped (t : FT) (lo : Int) : SeqAt.shaped (.list ((bitsL t lo).map pairD)) = true := by
  refine shaped_list (k := 1) (fun d hd => ?_) (fun d hd => ?_) (by decide)
  · obtain ⟨x, hx, rfl⟩ := List.mem_map.mp hd
    obtain ⟨j, _, rfl⟩ := mem_bits.mp hx
    exact pairD_lay (w_lay t)
  · obtain ⟨x, hx, rfl⟩ := List.mem_map.mp hd
    exact pairD_depth x
theorem ok_covL {f : Addr} {fd : FuncData} (F : Fun K "_law_covers" "_law_covers" sCovL f fd) (B : Bi mg) (cb : Cal P w K mg base 1 "_law_bits" spBits) : FnOk P w K mg base CX0 2 f fd ["_law_told", "_law_mate", "_law_least"] spCovL := by
  refine F.ok scCovL (fun vs H Q E h => ?_) (fun cdv A outer s H vs Q E hr h => ?_)
  · obtain ⟨q, q2, t, t', lo, rfl, _⟩ := h
    rfl
  · obtain ⟨q, q2, t, t', lo, rfl, hq, hq2, ht, ht', l0, l1, k⟩ := h
    refine ⟨_, pss_cons (ps_set (i := 3) scCovL.nd rfl (.inr rfl) (pe_c cb hr (by decide) (by rfl) (pa_cons (pv 0) (pa_cons (pv 2) pa_nil))))
      (pss_one (ps_ret (pe_callB (cr_all rfl) (by rfl) B.all (by decide +kernel) (pa_cons (pe_lc (own := [("_law_pair", 4)]) (g := gName 4) (tt := tYes) rfl scCovL.nd (pi_list (pe_c cb hr (by decide) (by rfl) (pa_cons (pv 1) (pa_cons (pv 2) pa_nil))))
          (blkOk_by (N := ["_law_told", "_law_mate", "_law_least", "_law_own", "_law_pair"]) (sc := defScope sCovL) (by decide +kernel)) (fun _ _ _ _ _ => pg_name (i := 4) scCovL.nd rfl (Or.inl rfl)) (fun _ _ _ _ _ => pts_nil)
          (fun _ _ _ _ _ => pe_cmpR (show OpR _ (compareOp .In) (rInD K) from op_inD (room65 hr)) (pv 4) (pv 3) (by rfl))) pa_nil)))), ?_⟩
    refine ⟨_, rfl, _, rfl, q, t, lo, rfl, hq, ht, l0, l1, fun l H1 s1 _ hl => ?_⟩
    refine ⟨_, rfl, _, rfl, q2, t', lo, rfl, s1 _ _ hq2, ht', l0, l1, fun l2 H2 s2 _ hl2 => ?_⟩
    obtain ⟨ps, e1, e2, e3⟩ := hl2
    have h1 := hl.same s2
    refine ⟨l2, rfl, ⟨_, SqL.of e1⟩, fun D hD => ?_⟩
    refine lc_list (K := K) (a := l2) (xs := ps.map V.ref) (fun i H' => H' D = some (.lst ((((bitsL t' lo).take i).map fun x => decide (x ∈ bitsL t lo)).map V.bl)) ∧ L2.Same H2 H')
      ⟨by rw [List.take_zero]; exact upd_same, same_new hD⟩ (fun i H' _ ⟨_, s3⟩ => SqL.of (s3 _ _ e1)) (fun i x H' hx ⟨d1, s3⟩ => ?_) (fun H' ⟨d1, s3⟩ => ?_)
    · rw [List.getElem?_map] at hx
      obtain ⟨a, ha, rfl⟩ := Option.map_eq_some_iff.mp hx
      obtain ⟨hi, _⟩ := List.getElem?_eq_some_iff.mp ha
      rw [e2] at hi
      have hb : (bitsL t' lo)[i]? = some (bitsL t' lo)[i] := List.getElem?_eq_getElem hi
      generalize (bitsL t' lo)[i] = y at hb
      have ta := s3 _ _ (e3 i a y ha hb)
      refine ⟨rfl, _, rfl, _, rfl, pairD y, (bitsL t lo).map pairD, dp_pair ta, (h1.same s3).dp, ?_, bits_shaped t lo, ?_⟩
      · obtain ⟨j, _, rfl⟩ := mem_bits.mp (List.mem_of_getElem? hb)
        exact shaped_of (pairD_lay (w_lay t')) (Nat.le_trans (pairD_depth _) (by decide))
      · rw [any_pairs]
        refine ⟨_, d1, line_gt ?_, ?_, fun b o e => ?_⟩
        · rw [List.length_map, List.length_map, List.length_take]
          rw [bitsL_len] at hi ⊢
          have : bitsN t' lo ≤ 128 := by
            cases t' with
            | free => exact Nat.zero_le _
            | f sg n =>
              obtain ⟨_, n1⟩ := (show 3 ≤ n ∧ n ≤ 128 from ht')
              show (n - lo).toNat ≤ 128
              omega
          omega
        · rw [take_more hb, List.map_append, List.map_append]
          exact upd_same
        · have nb : b ≠ D := fun z => by
            subst z
            rw [hD] at e
            cases e
          rw [upd_ne nb]
          exact s3 b o e
    · rw [List.length_map, e2, List.take_length] at d1
      refine ⟨D, _, rfl, SqL.of d1, ?_⟩
      have e : (((bitsL t' lo).map fun x => decide (x ∈ bitsL t lo)).all id) = covL t t' lo := by
        rw [List.all_map]
        rfl
      rw [e]
      exact k H' ((s1.trans s2).trans s3)
/-- _law_text(told) -/
def spText : Sp := fun vs H Q _ => ∃ (q : Addr) (t : FT), vs = [.ref q] ∧ TellAt H q t ∧ t.ok ∧ Q (.str (strF t)) H
theorem scText : FnScope ["_law_told"] ["_law_told"] (defScope sText) := ⟨rfl, rfl, rfl, by decide +kernel, rfl, by decide +kernel, by decide +kernel⟩
theorem ok_text {f : Addr} {fd : FuncData} (F : Fun K "_law_text" "_law_text" sText f fd) (B : Bi mg) : FnOk P w K mg base CX0 1 f fd ["_law_told"] spText := by
  refine F.ok scText (fun vs H Q E h => ?_) (fun cdv A outer s H vs Q E hr h => ?_)
  · obtain ⟨q, t, rfl, _⟩ := h
    rfl
  · obtain ⟨q, t, rfl, hq, ht, k⟩ := h
    refine ⟨_, pss_one (ps_ret (pe_ifExp (pt_cmpR op_eq (pe_ix ix_tup (pv 0) pe_int (fun _ _ => rfl)) pe_str (nomark _)) (pe_ix ix_tup (pv 0) pe_int (fun _ _ => rfl))
      (pe_op op_add_str (pe_op op_add_str (pe_ix ix_tup (pv 0) pe_int (fun _ _ => rfl)) pe_str) (pe_callTy call_str_int (by rfl) B.str (by decide +kernel) (pa_cons (pe_ix ix_tup (pv 0) pe_int (fun _ _ => rfl)) pa_nil))))), ?_⟩
    refine ⟨_, rfl, q, _, _, _, rfl, rfl, SqT.of hq, atI_nat (j := 0) rfl, rfl, _, rfl, ?_⟩
    cases t with
    | free => exact iteT ⟨_, rfl, q, _, _, _, rfl, rfl, SqT.of hq, atI_nat (j := 0) rfl, k⟩
    | f sg n =>
      have hn := (show 3 ≤ n ∧ n ≤ 128 from ht)
      have h2 := num_len hn
      have h1 := wOf_len sg
      have h3 : ((" " : Str)).length = 1 := by decide +kernel
      have e0 : decide (V.str (FT.f sg n).w = V.str "free") = false := w_free
      rw [e0]
      rw [str_f, ← w_of sg n] at k
      refine iteF ⟨_, rfl, q, _, _, _, rfl, rfl, SqT.of hq, atI_nat (j := 0) rfl, _, _, rfl, rfl, ?_, _, rfl, q, _, _, _, rfl, rfl, SqT.of hq, atI_nat (j := 1) rfl, n, rfl, log_small (by omega), _, _, rfl, rfl, ?_, k⟩
      · rw [w_of]
        exact line_ge (by omega)
      · rw [w_of, Str.length_append]
        exact line_ge (by omega)
end
end K12
set_option Elab.async false
set_option linter.all false
set_option maxRecDepth 100000
set_option maxHeartbeats 4000000
namespace K12
open PySem L2 UL
abbrev sShown : Stmt := top 25
def FT.d : FT → PyData
  | .free => .none
  | .f _ n => .int n
theorem e_dp {K : PySem.W.Frag} {H : Hp} (t : FT) : Dp K H t.e t.d := by
  cases t with
  | free => exact .non
  | f s n => exact .int n
theorem lay_str' : ∀ (s : Bool) (m : _root_.Fin 129), (PyData.str (wOf s ++ " " ++ (toString ((m.val : Nat) : Int) : Str))).canLay0 = true := by decide +kernel
theorem lay_str {t : FT} (h : t.ok) : (PyData.str (strF t)).canLay0 = true := by
  cases t with
  | free =>
    show (PyData.str "free").canLay0 = true
    decide +kernel
  | f s n =>
    rw [str_f]
    obtain ⟨m, rfl⟩ := num_of (show 3 ≤ n ∧ n ≤ 128 from h)
    exact lay_str' s m
theorem lay_repr' : ∀ (s : Bool) (m : _root_.Fin 129), (PyData.str (("Fill('" : Str) ++ (wOf s ++ (("', " : Str) ++ ((toString ((m.val : Nat) : Int) : Str) ++ (")" : Str)))))).canLay0 = true := by decide +kernel
theorem lay_repr {t : FT} (h : t.ok) : (PyData.str (reprF t)).canLay0 = true := by
  cases t with
  | free =>
    show (PyData.str "Fill('free')").canLay0 = true
    decide +kernel
  | f s n =>
    obtain ⟨m, rfl⟩ := num_of (show 3 ≤ n ∧ n ≤ 128 from h)
    exact lay_repr' s m
theorem lay_d (t : FT) : t.d.canLay0 = true := by
  cases t <;> simp [FT.d, PyData.canLay0]
theorem dep_d (t : FT) : t.d.depth ≤ 0 := by
  cases t <;> simp [FT.d, PyData.depth]
def partsF : FT → Str
  | .free => "'" ++ "free" ++ "'"
  | .f s n => "'" ++ (FT.f s n).w ++ "', " ++ toString n
theorem parts_repr (t : FT) : (("Fill(" : Str) ++ partsF t) ++ (")" : Str) = reprF t := by
  cases t with
  | free => decide +kernel
  | f s n =>
    have e1 : ("Fill('" : Str) = ("Fill(" : Str) ++ ("'" : Str) := by decide +kernel
    show (("Fill(" : Str) ++ (("'" : Str) ++ (FT.f s n).w ++ ("', " : Str) ++ toString n)) ++ (")" : Str) = ("Fill('" : Str) ++ (wOf s ++ (("', " : Str) ++ (toString n ++ (")" : Str))))
    rw [e1, w_of]
    simp only [Str.append_assoc]
theorem parts_len {t : FT} (h : t.ok) : (partsF t).length ≤ 20 := by
  cases t with
  | free => decide +kernel
  | f s n =>
    show ((("'" : Str) ++ (FT.f s n).w ++ ("', " : Str) ++ toString n)).length ≤ 20
    rw [w_of, Str.length_append, Str.length_append, Str.length_append]
    have h2 := num_len (show 3 ≤ n ∧ n ≤ 128 from h)
    have h1 := wOf_len s
    have h3 : (("'" : Str)).length = 1 := by decide +kernel
    have h4 : (("', " : Str)).length = 3 := by decide +kernel
    omega
section
variable {P : Program} {w : World} {K : PySem.W.Frag} {mg : Str → Option Value} {base : Heap} {C : Addr}
/-- what the law asks of the class's members -/
structure Mem (P : Program) (w : World) (K : PySem.W.Frag) (mg : Str → Option Value) (base : Heap) (C : Addr) : Prop where
  T : Txt K mg C
  cW : CalP P w K mg base 1 C "word" (spGet C fun t => .str t.w)
  cE : CalP P w K mg base 1 C "extent" (spGet C FT.e)
  cEq : CalS P w K mg base 1 C "__eq__" (spEqF K C)
  cStr : CalS P w K mg base 1 C "__str__" (spShow C strF)
  cRepr : CalS P w K mg base 1 C "__repr__" (spShow C reprF)
  cRead : CalT P w K mg base 5 C "read" (spRead C)
  cReadK : CalTK P w K mg base 5 C "read" ["text"] (fun vs zs => vs ++ zs) (spRead C)
  cCut : CalM P w K mg base 5 C "cut" (spCutF C)
  cCutK : CalMK P w K mg base 5 C "cut" ["bits", "width"] (fun vs zs => vs ++ zs.reverse) (spCutF C)
  cCov : CalM P w K mg base 3 C "covers" (spCovF C)
  cCovK : CalMK P w K mg base 3 C "covers" ["other"] (fun vs zs => vs ++ zs) (spCovF C)
theorem self_first {K : PySem.W.Frag} {C : Addr} : PySem.W.notFirst K C (.ref C) = true := by simp [PySem.W.notFirst]
/-- _law_shown_right(made, told) -/
def spShown (C : Addr) : Sp := fun vs H Q _ => ∃ (v : V) (q : Addr) (t : FT), vs = [v, .ref q] ∧ FillAt C H v t ∧ TellAt H q t ∧ t.ok ∧ ∀ H' : Hp, L2.Same H H' → Q (.bl true) H'
theorem scShown : FnScope ["_law_made_here", "_law_told", "_law_parts"] ["_law_made_here", "_law_told"] (defScope sShown) := ⟨rfl, rfl, rfl, by decide +kernel, rfl, by decide +kernel, by decide +kernel⟩
theorem ok_shown {f : Addr} {fd : FuncData} (F : Fun K "_law_shown_right" "_law_shown_right" sShown f fd) (M : Mem P w K mg base C) (ct : Cal P w K mg base 1 "_law_text" spText) :
    FnOk P w K mg base CX0 6 f fd ["_law_made_here", "_law_told"] (spShown C) := by
  have T := M.T
  refine F.ok scShown (fun vs H Q E h => ?_) (fun cdv A outer s H vs Q E hr h => ?_)
  · obtain ⟨v, q, t, rfl, _⟩ := h
    rfl
  · obtain ⟨v, q, t, rfl, hv, hq, ht, k⟩ := h
    refine ⟨_, pss_cons (ps_set (i := 2) scShown.nd rfl (.inl rfl) (pe_ifExp (pt_cmpR op_eq (pe_ix ix_tup (pv 1) pe_int (fun _ _ => rfl)) pe_str (nomark _))
        (pe_op op_add_str (pe_op op_add_str pe_str (pe_ix ix_tup (pv 1) pe_int (fun _ _ => rfl))) pe_str)
        (pe_op op_add_str (pe_op op_add_str (pe_op op_add_str pe_str (pe_ix ix_tup (pv 1) pe_int (fun _ _ => rfl))) pe_str) (pe_callTy call_str_int (by rfl) T.bi.str (by decide +kernel) (pa_cons (pe_ix ix_tup (pv 1) pe_int (fun _ _ => rfl)) pa_nil)))))
      (pss_cons (ps_if (pt_cmpR (op_neD hr.units) (pe_lst (pa_cons (pe_p (pv 0) M.cW hr (by decide) (by rfl)) (pa_cons (pe_p (pv 0) M.cE hr (by decide) (by rfl))
            (pa_cons (pe_callTy (call_strS M.cStr hr (by decide)) (by rfl) T.bi.str (by decide +kernel) (pa_cons (pv 0) pa_nil)) (pa_cons (pe_callB (call_reprS M.cRepr hr (by decide)) (by rfl) T.bi.repr (by decide +kernel) (pa_cons (pv 0) pa_nil)) pa_nil)))))
          (pe_lst (pa_cons (pe_ix ix_tup (pv 1) pe_int (fun _ _ => rfl)) (pa_cons (pe_ix ix_tup (pv 1) pe_int (fun _ _ => rfl)) (pa_cons (pe_c ct hr (by decide) (by rfl) (pa_cons (pv 1) pa_nil))
            (pa_cons (pe_op op_add_str (pe_op op_add_str pe_str (pv 2)) pe_str) pa_nil))))) (nomark _)) (pss_one ps_never) pss_nil)
      (pss_one (ps_ret (pe_and (pe_cmpR (op_eqS M.cEq hr (by decide)) (pe_t (pe_glob (v := .ref C) (by rfl) T.mgF rfl) M.cRead hr (by decide) (pa_cons (pe_c ct hr (by decide) (by rfl) (pa_cons (pv 1) pa_nil)) pa_nil)) (pv 0) (nomark _))
        (pe_one (pe_cmpR (op_eqS M.cEq hr (by decide)) (pe_tK (pe_glob (v := .ref C) (by rfl) T.mgF rfl) M.cReadK hr (by decide) (pk_cons (pe_callTy (call_strS M.cStr hr (by decide)) (by rfl) T.bi.str (by decide +kernel) (pa_cons (pv 0) pa_nil)) pk_nil)) (pv 0) (nomark _))))))), ?_⟩
    obtain ⟨a, dx, rfl, ha⟩ := id hv
    have rest : tSeq (tIfS (tTest (tOp (rNeD K) (tLst (tCons (tProp C (spGet C fun t => .str t.w) [] E0 (tVar 0)) (tCons (tProp C (spGet C FT.e) [] E0 (tVar 0)) (tCons (tCB (rShowI C (spShow C strF) E0) (tCons (tVar 0) tNil)) (tCons (tCB (rShowI C (spShow C reprF) E0) (tCons (tVar 0) tNil)) tNil)))))
        (tLst (tCons (tOp (rIxT K) (tVar 1) (tC (.int 0))) (tCons (tOp (rIxT K) (tVar 1) (tC (.int 1))) (tCons (tCall spText [] E0 (tCons (tVar 1) tNil))
          (tCons (tOp (fun x y H Q => ∃ i j, x = .str i ∧ y = .str j ∧ i.length + j.length ≤ sizeLine ∧ Q (.str (i ++ j)) H) (tOp (fun x y H Q => ∃ i j, x = .str i ∧ y = .str j ∧ i.length + j.length ≤ sizeLine ∧ Q (.str (i ++ j)) H) (tC (.str "Fill(")) (tVar 2)) (tC (.str ")"))) tNil))))))) (tSeq tNever tNext) tNext)
        (tRet (tAndV (tOp (rEqI K C (spEqF K C) E0) (tSMeth C (spRead C) [] E0 (tC (.ref C)) (tCons (tCall spText [] E0 (tCons (tVar 1) tNil)) tNil)) (tVar 0))
          (tOp (rEqI K C (spEqF K C) E0) (tSMethK C 1 (spRead C) (fun vs zs => vs ++ zs) E0 (tC (.ref C)) (tCons (tCB (rShowI C (spShow C strF) E0) (tCons (tVar 0) tNil)) tNil)) (tVar 0)))) { nx := fun _ H' => Q .non H', rt := Q }
        [some (.ref a), some (.ref q), some (.str (partsF t))] H := by
      refine ⟨_, rfl, a, dx, _, rfl, ha, _, t, rfl, hv, _, rfl, a, dx, _, rfl, ha, _, t, rfl, hv, _, rfl, a, dx, _, rfl, ha, _, t, rfl, hv, ht, _, rfl, _, rfl, a, dx, _, rfl, ha, _, t, rfl, hv, ht, _, rfl, (by show 4 ≤ sizeLine; decide), fun l hl => ?_⟩
      have s1 := same_new (o := .lst [.str t.w, t.e, .str (strF t), .str (reprF t)]) hl
      have hq1 := s1 _ _ hq
      refine ⟨_, rfl, q, _, _, _, rfl, rfl, SqT.of hq1, atI_nat (j := 0) rfl, _, rfl, q, _, _, _, rfl, rfl, SqT.of hq1, atI_nat (j := 1) rfl, _, rfl, q, t, rfl, hq1, ht, _, rfl, _, _, rfl, rfl, ?_, _, _, rfl, rfl, ?_, (by show 4 ≤ sizeLine; decide), fun l2 hl2 => ?_⟩
      · have := parts_len ht
        have h3 : (("Fill(" : Str)).length = 5 := by decide +kernel
        exact line_ge (by omega)
      · have := parts_len ht
        have h3 : (("Fill(" : Str)).length = 5 := by decide +kernel
        have h4 : ((")" : Str)).length = 1 := by decide +kernel
        rw [Str.length_append]
        exact line_ge (by omega)
      · rw [parts_repr]
        have lay : SeqAt.shaped (.list [.str t.w, t.d, .str (strF t), .str (reprF t)]) = true := by
          refine shaped_list (k := 0) (fun d hd => ?_) (fun d hd => ?_) (by decide)
          · simp only [List.mem_cons, List.not_mem_nil, or_false] at hd
            rcases hd with rfl | rfl | rfl | rfl
            · exact w_lay t
            · exact lay_d t
            · exact lay_str ht
            · exact lay_repr ht
          · simp only [List.mem_cons, List.not_mem_nil, or_false] at hd
            rcases hd with rfl | rfl | rfl | rfl
            · simp [PyData.depth]
            · exact dep_d t
            · simp [PyData.depth]
            · simp [PyData.depth]
        have s2 := same_new (o := .lst [.str t.w, t.e, .str (strF t), .str (reprF t)]) hl2
        refine ⟨_, _, .lst (SqL.of (s2 _ _ upd_same)) (.cons (.str _) (.cons (e_dp t) (.cons (.str _) (.cons (.str _) .nil)))), .lst (SqL.of upd_same) (.cons (.str _) (.cons (e_dp t) (.cons (.str _) (.cons (.str _) .nil)))), lay, lay, _, rfl, ?_⟩
        rw [SeqAt.eqv_refl _ (SeqAt.canLay_of_shaped lay)]
        refine iteF ?_
        have s3 := s1.trans s2
        have hq3 := s3 _ _ hq
        refine ⟨rfl, _, rfl, q, t, rfl, hq3, ht, t, rfl, ht, fun u H3 s4 hu => ?_⟩
        have hv3 := hv.same (s3.trans s4)
        obtain ⟨b, dy, rfl, hb⟩ := id hu
        refine ⟨_, rfl, b, dy, _, _, rfl, hb, M.T.isi.ty (show H3 a = _ from (s3.trans s4) _ _ ha), self_first, _, _, t, rfl, hu, .inl ⟨t, hv3, _, rfl, ?_⟩⟩
        rw [decide_eq_true rfl]
        refine iteT ⟨rfl, _, rfl, a, dx, _, rfl, (s3.trans s4) _ _ ha, _, t, rfl, hv3, ht, _, rfl, rfl, t, rfl, ht, fun u2 H4 s5 hu2 => ?_⟩
        obtain ⟨b2, dy2, rfl, hb2⟩ := id hu2
        refine ⟨_, rfl, b2, dy2, _, _, rfl, hb2, M.T.isi.ty (show H4 a = _ from ((s3.trans s4).trans s5) _ _ ha), self_first, _, _, t, rfl, hu2, .inl ⟨t, hv3.same s5, ?_⟩⟩
        rw [decide_eq_true rfl]
        exact k H4 ((s3.trans s4).trans s5)
    refine ⟨_, rfl, q, _, _, _, rfl, rfl, SqT.of hq, atI_nat (j := 0) rfl, rfl, _, rfl, ?_⟩
    cases t with
    | free => exact iteT ⟨_, rfl, q, _, _, _, rfl, rfl, SqT.of hq, atI_nat (j := 0) rfl, _, _, rfl, rfl, line_ge (by decide +kernel), _, _, rfl, rfl, line_ge (by decide +kernel), rest⟩
    | f sg n =>
      have hn := (show 3 ≤ n ∧ n ≤ 128 from ht)
      have h2 := num_len hn
      have h1 := wOf_len sg
      have h3 : (("'" : Str)).length = 1 := by decide +kernel
      have h4 : (("', " : Str)).length = 3 := by decide +kernel
      have e0 : decide (V.str (FT.f sg n).w = V.str "free") = false := w_free
      rw [e0]
      refine iteF ⟨_, rfl, q, _, _, _, rfl, rfl, SqT.of hq, atI_nat (j := 0) rfl, _, _, rfl, rfl, ?_, _, _, rfl, rfl, ?_, _, rfl, q, _, _, _, rfl, rfl, SqT.of hq, atI_nat (j := 1) rfl, n, rfl, log_small (by omega), _, _, rfl, rfl, ?_, rest⟩
      · rw [w_of]
        exact line_ge (by omega)
      · rw [w_of, Str.length_append]
        exact line_ge (by omega)
      · rw [w_of, Str.length_append, Str.length_append]
        exact line_ge (by omega)
end
end K12
set_option Elab.async false
set_option linter.all false
set_option maxRecDepth 100000
set_option maxHeartbeats 4000000
namespace K12
open PySem L2 UL
abbrev sCutR : Stmt := top 26
theorem cut_cut {t : FT} {w r a : Int} (h : a ≤ r) : cutF (cutF t w r) w a = cutF t w a := by
  cases t with
  | free => rfl
  | f s n =>
    show cutF (if (if n < r then n else r) ≤ w then FT.free else FT.f s (if n < r then n else r)) w a = (if (if n < a then n else a) ≤ w then FT.free else FT.f s (if n < a then n else a))
    have key : ∀ m m', m = (if n < r then n else r) → m' = (if n < a then n else a) → (if m < a then m else a) = m' := by
      intro m m' e1 e2
      by_cases c1 : n < r
      · rw [if_pos c1] at e1
        rw [e1, e2]
      · rw [if_neg c1] at e1
        subst e1
        rw [if_neg (by omega), e2]
        by_cases c2 : n < a
        · omega
        · rw [if_neg c2]
    obtain ⟨m, em⟩ : ∃ m, m = (if n < r then n else r) := ⟨_, rfl⟩
    obtain ⟨m', em'⟩ : ∃ m', m' = (if n < a then n else a) := ⟨_, rfl⟩
    have k := key m m' em em'
    rw [← em, ← em']
    by_cases c : m ≤ w
    · rw [if_pos c]
      have : m' ≤ w := by
        rw [← k]
        by_cases c2 : m < a
        · rw [if_pos c2]
          exact c
        · rw [if_neg c2]
          omega
      rw [if_pos this]
      rfl
    · rw [if_neg c]
      show (if (if m < a then m else a) ≤ w then FT.free else FT.f s (if m < a then m else a)) = _
      rw [k]
theorem cov_cut (t : FT) (w r : Int) : covF t (cutF t w r) = true := by
  cases t with
  | free => rfl
  | f s n =>
    show covF (.f s n) (if (if n < r then n else r) ≤ w then FT.free else FT.f s (if n < r then n else r)) = true
    obtain ⟨m, em⟩ : ∃ m, m = (if n < r then n else r) := ⟨_, rfl⟩
    rw [← em]
    by_cases c : m ≤ w
    · rw [if_pos c]
      rfl
    · rw [if_neg c]
      show (decide (s = s) && decide (m ≤ n)) = true
      rw [decide_eq_true rfl, decide_eq_true]
      · rfl
      · by_cases c2 : n < r
        · rw [if_pos c2] at em
          omega
        · rw [if_neg c2] at em
          omega
section
variable {P : Program} {w : World} {K : PySem.W.Frag} {mg : Str → Option Value} {base : Heap} {C : Addr}
/-- what the law's own helpers promise -/
structure Hlp (P : Program) (w : World) (K : PySem.W.Frag) (mg : Str → Option Value) (base : Heap) (C : Addr) : Prop where
  M : Mem P w K mg base C
  draw : Cal P w K mg base 1 "_law_draw" spDraw
  pick : Cal P w K mg base 2 "_law_pick" (spPick1 K)
  fill : Cal P w K mg base 3 "_law_fill" spFill
  made : Cal P w K mg base 5 "_law_made" (spMade C)
  cut : Cal P w K mg base 2 "_law_cut" spCutL
  cov : Cal P w K mg base 2 "_law_covers" spCovL
  text : Cal P w K mg base 1 "_law_text" spText
  shown : Cal P w K mg base 6 "_law_shown_right" (spShown C)
/-- a def of the law that draws and says True -/
def spRight (C : Addr) : Sp := fun vs H Q _ => ∃ (p : Addr) (v : V) (q : Addr) (t : FT), vs = [.ref p, v, .ref q] ∧ Pot H p ∧ FillAt C H v t ∧ TellAt H q t ∧ t.ok ∧ ∀ H' : Hp, Pot H' p → Stay p H H' → Q (.bl true) H'
theorem max2 {z : Int} : 2 ≤ (if (if z < 128 then z else 128) > 2 then (if z < 128 then z else 128) else 2) ∧ (if (if z < 128 then z else 128) > 2 then (if z < 128 then z else 128) else 2) ≤ 128 := by
  by_cases c1 : z < 128
  · rw [if_pos c1]
    by_cases c2 : z > 2
    · rw [if_pos c2]
      omega
    · rw [if_neg c2]
      omega
  · rw [if_neg c1, if_pos (by decide)]
    omega
theorem maxw {z wi : Int} (h0 : 2 ≤ wi) (h1 : wi ≤ 128) : wi ≤ (if (if z < 128 then z else 128) > wi then (if z < 128 then z else 128) else wi) ∧ (if (if z < 128 then z else 128) > wi then (if z < 128 then z else 128) else wi) ≤ 128 := by
  by_cases c1 : z < 128
  · rw [if_pos c1]
    by_cases c2 : z > wi
    · rw [if_pos c2]
      omega
    · rw [if_neg c2]
      omega
  · rw [if_neg c1]
    by_cases c2 : (128 : Int) > wi
    · rw [if_pos c2]
      omega
    · rw [if_neg c2]
      omega
theorem scCutR : FnScope ["_law_pot_here", "_law_made_here", "_law_told", "_law_near", "_law_wide", "_law_far", "_law_room", "_law_due", "_law_less", "_law_again"] ["_law_pot_here", "_law_made_here", "_law_told"] (defScope sCutR) := ⟨rfl, rfl, rfl, by decide +kernel, rfl, by decide +kernel, by decide +kernel⟩
theorem ok_cutR {f : Addr} {fd : FuncData} (F : Fun K "_law_cut_right" "_law_cut_right" sCutR f fd) (L : Hlp P w K mg base C) : FnOk P w K mg base CX0 7 f fd ["_law_pot_here", "_law_made_here", "_law_told"] (spRight C) := by
  have M := L.M
  have B := M.T.bi
  refine F.ok scCutR (fun vs H Q E h => ?_) (fun cdv A outer s H vs Q E hr h => ?_)
  · obtain ⟨p, v, q, t, rfl, _⟩ := h
    rfl
  · obtain ⟨p, v, q, t, rfl, hp, hv, hq, ht, k⟩ := h
    refine ⟨_, pss_cons (ps_set (i := 3) scCutR.nd rfl (.inl rfl) (pe_ifExp (pt_cmpR op_isN (pe_ix ix_tup (pv 2) pe_int (fun _ _ => rfl)) pe_non (nomark _)) pe_int (pe_ix ix_tup (pv 2) pe_int (fun _ _ => rfl))))
      (pss_cons (ps_set (i := 4) scCutR.nd rfl (.inl rfl) (pe_callB (call_max2 rfl) (by rfl) B.max (by decide +kernel) (pa_cons pe_int (pa_cons (pe_callB (call_min2 rfl) (by rfl) B.min (by decide +kernel) (pa_cons pe_int (pa_cons
          (pe_c L.pick hr (by decide) (by rfl) (pa_cons (pv 0) (pa_cons (pe_lst (pa_cons (pv 3) (pa_cons (pe_op op_sub (pv 3) pe_int) (pa_cons (pe_op op_add (pv 3) pe_int) (pa_cons pe_int (pa_cons pe_int
            (pa_cons (pe_op op_add pe_int (pe_c L.draw hr (by decide) (by rfl) (pa_cons (pv 0) (pa_cons pe_int pa_nil)))) pa_nil))))))) pa_nil))) pa_nil))) pa_nil))))
      (pss_cons (ps_set (i := 5) scCutR.nd rfl (.inl rfl) (pe_c L.pick hr (by decide) (by rfl) (pa_cons (pv 0) (pa_cons (pe_lst (pa_cons (pv 3) (pa_cons (pe_op op_sub (pv 3) pe_int) (pa_cons (pe_op op_add (pv 3) pe_int) (pa_cons (pv 4) (pa_cons pe_int (pa_cons pe_int (pa_cons pe_int
            (pa_cons (pe_op op_add (pv 4) (pe_c L.draw hr (by decide) (by rfl) (pa_cons (pv 0) (pa_cons pe_int pa_nil)))) pa_nil))))))))) pa_nil))))
      (pss_cons (ps_set (i := 6) scCutR.nd rfl (.inl rfl) (pe_callB (call_max2 rfl) (by rfl) B.max (by decide +kernel) (pa_cons (pe_callTy call_int1 (by rfl) B.int (by decide +kernel) (pa_cons (pv 4) pa_nil))
          (pa_cons (pe_callB (call_min2 rfl) (by rfl) B.min (by decide +kernel) (pa_cons pe_int (pa_cons (pv 5) pa_nil))) pa_nil))))
      (pss_cons (ps_set (i := 7) scCutR.nd rfl (.inl rfl) (pe_c L.cut hr (by decide) (by rfl) (pa_cons (pv 2) (pa_cons (pv 4) (pa_cons (pv 6) pa_nil)))))
      (pss_cons (ps_set (i := 8) scCutR.nd rfl (.inl rfl) (pe_m (pv 1) M.cCut hr (by decide) (pa_cons (pv 4) (pa_cons (pv 6) pa_nil))))
      (pss_cons (ps_if (PW.pt (pw_or (pt_not (pt_val (pe_c L.shown hr (by decide) (by rfl) (pa_cons (pv 8) (pa_cons (pv 7) pa_nil)))))
          (pw_or1 (pt_not (pt_cmpR (op_eqS M.cEq hr (by decide)) (pe_mK (pv 1) M.cCutK hr (by decide) (pk_cons (pv 6) (pk_cons (pv 4) pk_nil))) (pv 8) (nomark _)))))) (pss_one ps_never) pss_nil)
      (pss_cons (ps_set (i := 9) scCutR.nd rfl (.inl rfl) (pe_callB (call_max2 rfl) (by rfl) B.max (by decide +kernel) (pa_cons (pe_callTy call_int1 (by rfl) B.int (by decide +kernel) (pa_cons (pv 4) pa_nil))
          (pa_cons (pe_op op_sub (pv 6) (pe_c L.draw hr (by decide) (by rfl) (pa_cons (pv 0) (pa_cons pe_int pa_nil)))) pa_nil))))
      (pss_cons (ps_if (PW.pt (pw_or (pt_not (pt_val (pe_c L.shown hr (by decide) (by rfl) (pa_cons (pe_m (pv 8) M.cCut hr (by decide) (pa_cons (pv 4) (pa_cons (pv 9) pa_nil))) (pa_cons (pe_c L.cut hr (by decide) (by rfl) (pa_cons (pv 2) (pa_cons (pv 4) (pa_cons (pv 9) pa_nil)))) pa_nil)))))
          (pw_or1 (pt_not (pt_val (pe_c L.shown hr (by decide) (by rfl) (pa_cons (pv 1) (pa_cons (pv 2) pa_nil)))))))) (pss_one ps_never) pss_nil)
      (pss_one (ps_ret (pe_and (pe_cmpR op_is_bl (pe_m (pv 1) M.cCov hr (by decide) (pa_cons (pv 8) pa_nil)) pe_bl (nomark _)) (pe_one (pe_cmpR (op_eqS M.cEq hr (by decide)) (pe_m (pv 8) M.cCut hr (by decide) (pa_cons (pv 4) (pa_cons (pv 6) pa_nil))) (pv 8) (nomark _)))))))))))))), ?_⟩
    obtain ⟨a, dx, rfl, ha⟩ := id hv
    obtain ⟨p1, p2, pq, _⟩ := id hp
    have nap : a ≠ p := ne_of ha pq (by intro z; cases z)
    refine ⟨_, rfl, q, _, _, _, rfl, rfl, SqT.of hq, atI_nat (j := 1) rfl, rfl, _, rfl, ?_⟩
    -- near: two ways, the same from there on
    have hcase : t.e = .non ∨ ∃ n, t.e = .int n := by
      cases t with
      | free => exact .inl rfl
      | f sg n => exact .inr ⟨n, rfl⟩
    rcases hcase with c | ⟨n, c⟩
    case' inl =>
      rw [c]
      refine iteT ?_
    case' inr =>
      rw [c]
      refine iteF ⟨_, rfl, q, _, _, _, rfl, rfl, SqT.of hq, atI_nat (j := 1) rfl, ?_⟩
      rw [c]
    all_goals (
      refine ⟨_, rfl, _, rfl, _, rfl, _, _, rfl, rfl, _, rfl, _, _, rfl, rfl, _, rfl, p, 127, rfl, hp, by decide, by decide, fun d H1 d0 d1 hp1 t1 => ⟨_, _, rfl, rfl, (by show 6 ≤ sizeLine; decide), fun l hl =>
        ⟨p, l, _, rfl, hp1.same (same_new hl), pot_ne hp1 hl, SqL.of upd_same, (by show 0 < 6; decide), (by show 6 < 1073741824; decide), fun i x H2 hx hp2 t2 => ?_⟩⟩⟩
      obtain ⟨z, rfl⟩ : ∃ z, x = .int z := by
        have := List.mem_of_getElem? hx
        simp only [List.mem_cons, List.not_mem_nil, or_false] at this
        rcases this with e | e | e | e | e | e <;> exact ⟨_, e⟩
      have st2 : Stay p H H2 := (t1.trans (stay_new hl)).trans t2
      refine ⟨128, z, rfl, 2, _, rfl, ?_⟩
      obtain ⟨w0, w1⟩ := max2 (z := z)
      generalize (if (if z < 128 then z else 128) > 2 then (if z < 128 then z else 128) else 2) = wi at w0 w1 ⊢
      refine ⟨_, rfl, _, rfl, _, rfl, _, _, rfl, rfl, _, rfl, _, _, rfl, rfl, _, rfl, _, rfl, _, rfl, p, 99, rfl, hp2, by decide, by decide, fun d2 H3 _ _ hp3 t3 => ⟨_, _, rfl, rfl, (by show 8 ≤ sizeLine; decide), fun l2 hl2 =>
        ⟨p, l2, _, rfl, hp3.same (same_new hl2), pot_ne hp3 hl2, SqL.of upd_same, (by show 0 < 8; decide), (by show 8 < 1073741824; decide), fun i2 x2 H4 hx2 hp4 t4 => ?_⟩⟩⟩
      obtain ⟨y, rfl⟩ : ∃ y, x2 = .int y := by
        have := List.mem_of_getElem? hx2
        simp only [List.mem_cons, List.not_mem_nil, or_false] at this
        rcases this with e | e | e | e | e | e | e | e <;> exact ⟨_, e⟩
      have st4 : Stay p H H4 := ((st2.trans t3).trans (stay_new hl2)).trans t4
      refine ⟨_, rfl, .inl ⟨_, rfl, _, rfl, 128, y, rfl, wi, _, rfl, ?_⟩⟩
      obtain ⟨r0, r1⟩ := maxw (z := y) w0 w1
      generalize (if (if y < 128 then y else 128) > wi then (if y < 128 then y else 128) else wi) = room at r0 r1 ⊢
      -- due, less
      have hq4 := st4.tup hp hq
      have hv4 := hv.stay hp st4
      have okc := cutF_ok ht w0 r1 (b := room)
      refine ⟨_, rfl, _, rfl, _, rfl, q, t, wi, room, rfl, hq4, ht, w0, r0, r1, fun qd H5 s5 hqd => ?_⟩
      have hv5 := hv4.same s5
      have ha5 : H5 a = some (.ins C dx (ff t)) := s5 _ _ (st4 _ _ nap ha)
      refine ⟨_, rfl, a, dx, _, rfl, ha5, ff_no t (by decide +kernel) (by decide +kernel), _, rfl, _, rfl, _, t, wi, room, rfl, hv5, ht, w0, w1, r0, r1, fun u H6 s6 hu => ?_⟩
      have hqd6 := s6 _ _ hqd
      refine ⟨_, rfl, _, rfl, u, qd, _, rfl, hu, hqd6, okc, fun H7 s7 => ⟨_, rfl, ?_⟩⟩
      refine iteF ?_
      have s57 := (s5.trans s6).trans s7
      have hv7 := hv4.same s57
      have ha7 : H7 a = some (.ins C dx (ff t)) := s57 _ _ (st4 _ _ nap ha)
      refine ⟨_, rfl, a, dx, _, rfl, ha7, ff_no t (by decide +kernel) (by decide +kernel), _, rfl, _, rfl, rfl, _, t, wi, room, rfl, hv7, ht, w0, w1, r0, r1, fun u2 H8 s8 hu2 => ?_⟩
      have hu8 := hu.same (s7.trans s8)
      obtain ⟨b2, dy2, rfl, hb2⟩ := id hu2
      obtain ⟨b, dy, rfl, hb⟩ := id hu8
      refine ⟨_, rfl, b2, dy2, _, _, rfl, hb2, M.T.isi.ty hb, self_first, _, _, _, rfl, hu2, .inl ⟨_, hu8, _, rfl, ?_⟩⟩
      rw [decide_eq_true rfl]
      refine iteF ?_
      have s48 := s57.trans s8
      have hp8 := hp4.same s48
      refine ⟨_, rfl, .inl ⟨_, rfl, _, rfl, _, rfl, p, 9, rfl, hp8, by decide, by decide, fun d3 H9 e0 e1 hp9 t9 => ⟨_, _, rfl, rfl, wi, _, rfl, ?_⟩⟩⟩
      have ag : wi ≤ (if room - d3 > wi then room - d3 else wi) ∧ (if room - d3 > wi then room - d3 else wi) ≤ room := by
        by_cases c : room - d3 > wi
        · rw [if_pos c]
          omega
        · rw [if_neg c]
          omega
      dsimp only
      generalize (if room - d3 > wi then room - d3 else wi) = again at ag ⊢
      have st9 : Stay p H H9 := (st4.trans (Same.stay s48 p)).trans t9
      have hq9 := st9.tup hp hq
      have hv9 := hv.stay hp st9
      have hu9 : FillAt C H9 (.ref b) (cutF t wi room) := hu8.stay hp8 t9
      have ha9 : H9 a = some (.ins C dx (ff t)) := st9 _ _ nap ha
      obtain ⟨b', dy', eb, hb9⟩ := id hu9
      cases eb
      refine ⟨_, rfl, b, dy', _, rfl, hb9, ff_no _ (by decide +kernel) (by decide +kernel), _, rfl, _, rfl, _, _, wi, again, rfl, hu9, okc, w0, w1, ag.1, by omega, fun u3 H10 s10 hu3 => ?_⟩
      refine ⟨_, rfl, _, rfl, _, rfl, q, t, wi, again, rfl, s10 _ _ hq9, ht, w0, ag.1, by omega, fun q3 H11 s11 hq3 => ?_⟩
      rw [cut_cut ag.2] at hu3
      refine ⟨u3, q3, _, rfl, hu3.same s11, hq3, cutF_ok ht w0 (by omega), fun H12 s12 => ⟨_, rfl, ?_⟩⟩
      refine iteF ?_
      have s9c := (s10.trans s11).trans s12
      refine ⟨_, rfl, _, rfl, _, q, t, rfl, hv9.same s9c, s9c _ _ hq9, ht, fun H13 s13 => ⟨_, rfl, ?_⟩⟩
      refine iteF ?_
      have s9d := s9c.trans s13
      refine ⟨_, rfl, a, dx, _, rfl, s9d _ _ ha9, ff_no t (by decide +kernel) (by decide +kernel), _, rfl, _, _, t, cutF t wi room, rfl, hv9.same s9d, hu9.same s9d, _, _, rfl, rfl, _, rfl, ?_⟩
      rw [cov_cut]
      refine iteT ⟨_, rfl, b, dy', _, rfl, s9d _ _ hb9, ff_no _ (by decide +kernel) (by decide +kernel), _, rfl, _, rfl, _, _, wi, room, rfl, hu9.same s9d, okc, w0, w1, r0, r1, fun u4 H14 s14 hu4 => ?_⟩
      rw [cut_cut (Int.le_refl _)] at hu4
      obtain ⟨b4, dy4, rfl, hb4⟩ := id hu4
      refine ⟨_, rfl, b4, dy4, _, _, rfl, hb4, M.T.isi.ty (show H14 b = _ from s14 _ _ (s9d _ _ hb9)), self_first, _, _, _, rfl, hu4, .inl ⟨_, (hu9.same s9d).same s14, ?_⟩⟩
      rw [decide_eq_true rfl]
      have s9e := s9d.trans s14
      exact k H14 (hp9.same s9e) (st9.trans (Same.stay s9e p)))
end
end K12
set_option Elab.async false
set_option linter.all false
set_option maxRecDepth 100000
set_option maxHeartbeats 4000000
namespace K12
open PySem L2 UL
abbrev sPairR : Stmt := top 27
abbrev sUnl : Stmt := top 28
theorem cov_self (t : FT) : covF t t = true := by
  cases t with
  | free => rfl
  | f s n =>
    show (decide (s = s) && decide (n ≤ n)) = true
    simp
theorem cov_both (t t' : FT) : (covF t t' && covF t' t) = decide (t = t') := by
  rcases t with _ | ⟨s, n⟩ <;> rcases t' with _ | ⟨s', n'⟩
  · rfl
  · rfl
  · rfl
  · show ((decide (s = s') && decide (n' ≤ n)) && (decide (s' = s) && decide (n ≤ n'))) = decide (FT.f s n = FT.f s' n')
    rw [Bool.eq_iff_iff]
    simp only [Bool.and_eq_true, decide_eq_true_iff]
    constructor
    · rintro ⟨⟨rfl, h1⟩, _, h2⟩
      have : n = n' := by omega
      rw [this]
    · intro h
      cases h
      exact ⟨⟨rfl, Int.le_refl _⟩, rfl, Int.le_refl _⟩
def tellD (t : FT) : PyData := .tuple [.str t.w, t.d]
theorem tell_dp {K : PySem.W.Frag} {H : Hp} {q : Addr} {t : FT} (h : TellAt H q t) : Dp K H (.ref q) (tellD t) := .tup (SqT.of h) (.cons (.str _) (.cons (e_dp t) .nil))
theorem tell_eqv (t t' : FT) : PyData.eqv (tellD t) (tellD t') = decide (t = t') := by
  have e : PyData.eqv (tellD t) (tellD t') = ((t.w == t'.w) && (PyData.eqv t.d t'.d && true)) := by simp only [tellD, PyData.eqv, PyData.eqvAll]
  rw [e, ← we_eq]
  have h1 : (t.w == t'.w) = decide (V.str t.w = V.str t'.w) := dec_str.symm
  have h2 : (PyData.eqv t.d t'.d && true) = decide (t.e = t'.e) := by
    rw [Bool.and_true]
    rcases t with _ | ⟨s, n⟩ <;> rcases t' with _ | ⟨s', n'⟩
    · simp [FT.d, FT.e, PyData.eqv]
    · simp [FT.d, FT.e, PyData.eqv]
    · simp [FT.d, FT.e, PyData.eqv]
    · have h3 : PyData.eqv (FT.f s n).d (FT.f s' n').d = (n == n') := by simp only [FT.d, PyData.eqv]
      rw [h3]
      exact dec_int.symm
  rw [h1, h2]
theorem tell_shaped (t : FT) : SeqAt.shaped (tellD t) = true := by
  refine shaped_tuple (k := 0) (fun d hd => ?_) (fun d hd => ?_) (by decide)
  · simp only [List.mem_cons, List.not_mem_nil, or_false] at hd
    rcases hd with rfl | rfl
    · exact w_lay t
    · exact lay_d t
  · simp only [List.mem_cons, List.not_mem_nil, or_false] at hd
    rcases hd with rfl | rfl
    · simp [PyData.depth]
    · exact dep_d t
theorem covL2 {t t' : FT} (h : t'.ok) : covL t t' 2 = covF t t' := covL_eq fun s n e => by
  subst e
  have := (show 3 ≤ n ∧ n ≤ 128 from h)
  omega
theorem covLw {t t' : FT} {wi r : Int} (h : t'.ok) : covL t (cutF t' wi r) wi = covF t (cutF t' wi r) := covL_eq fun s n e => by
  cases t' with
  | free => cases e
  | f s' n' =>
    have e' : (if (if n' < r then n' else r) ≤ wi then FT.free else FT.f s' (if n' < r then n' else r)) = FT.f s n := e
    by_cases c : (if n' < r then n' else r) ≤ wi
    · rw [if_pos c] at e'
      cases e'
    · rw [if_neg c] at e'
      cases e'
      omega
theorem shaped_bls (bs : List Bool) : SeqAt.shaped (.list (bs.map PyData.bool)) = true := by
  refine shaped_list (k := 0) (fun d hd => ?_) (fun d hd => ?_) (by decide)
  · obtain ⟨b, _, rfl⟩ := List.mem_map.mp hd
    simp [PyData.canLay0]
  · obtain ⟨b, _, rfl⟩ := List.mem_map.mp hd
    simp [PyData.depth]
section
variable {P : Program} {w : World} {K : PySem.W.Frag} {mg : Str → Option Value} {base : Heap} {C : Addr}
theorem scUnl : FnScope ["_law_made_here", "_law_told", "_law_things", "_law_thing"] ["_law_made_here", "_law_told"] (defScope sUnl) := ⟨rfl, rfl, rfl, by decide +kernel, rfl, by decide +kernel, by decide +kernel⟩
theorem ok_unl {f : Addr} {fd : FuncData} (F : Fun K "_law_unlike_right" "_law_unlike_right" sUnl f fd) (L : Hlp P w K mg base C) : FnOk P w K mg base CX0 4 f fd ["_law_made_here", "_law_told"] (spShown C) := by
  have M := L.M
  have B := M.T.bi
  refine F.ok scUnl (fun vs H Q E h => ?_) (fun cdv A outer s H vs Q E hr h => ?_)
  · obtain ⟨v, q, t, rfl, _⟩ := h
    rfl
  · obtain ⟨v, q, t, rfl, hv, hq, ht, k⟩ := h
    refine ⟨_, pss_cons (ps_set (i := 2) scUnl.nd rfl (.inl rfl) (pe_lst (pa_cons pe_non (pa_cons (pv 1) (pa_cons (pe_c L.text hr (by decide) (by rfl) (pa_cons (pv 1) pa_nil)) (pa_cons (pe_ix ix_tup (pv 1) pe_int (fun _ _ => rfl)) (pa_cons (pe_ix ix_tup (pv 1) pe_int (fun _ _ => rfl))
        (pa_cons (pe_lst (pa_cons (pv 0) pa_nil)) (pa_cons pe_int pa_nil)))))))))
      (pss_one (ps_ret (pe_and (pe_cmpR (op_eqD hr.units) (pe_lc (own := [("_law_thing", 3)]) (g := gName 3) (tt := tYes) rfl scUnl.nd (pi_list (pv 2))
          (blkOk_by (N := ["_law_made_here", "_law_told", "_law_things", "_law_thing"]) (sc := defScope sUnl) (by decide +kernel)) (fun _ _ _ _ _ => pg_name (i := 3) scUnl.nd rfl (Or.inl rfl)) (fun _ _ _ _ _ => pts_nil)
          (fun _ _ _ _ _ => pe_cmpR (show OpR _ (compareOp .Eq) (rEqI K C (spEqF K C) E0) from op_eqS M.cEq hr (by decide)) (pv 0) (pv 3) (nomark _)))
          (pe_op op_rep (pe_lst (pa_cons pe_bl pa_nil)) (pe_callB call_len_seq (by rfl) B.len PySem.boot_len (pa_cons (pv 2) pa_nil))) (nomark _))
        (pe_one (pe_cmpR op_is_bl (pe_m (pv 0) M.cCov hr (by decide) (pa_cons (pv 0) pa_nil)) pe_bl (nomark _)))))), ?_⟩
    obtain ⟨a, dx, rfl, ha⟩ := id hv
    refine ⟨_, rfl, _, rfl, q, t, rfl, hq, ht, _, rfl, q, _, _, _, rfl, rfl, SqT.of hq, atI_nat (j := 0) rfl, _, rfl, q, _, _, _, rfl, rfl, SqT.of hq, atI_nat (j := 1) rfl, _, rfl, (by show 1 ≤ sizeLine; decide), fun l1 hl1 =>
      ⟨(by show 7 ≤ sizeLine; decide), fun l2 hl2 => ?_⟩⟩
    have s1 := same_new (o := .lst [.ref a]) hl1
    have s2 := s1.trans (same_new (o := .lst [.non, .ref q, .str (strF t), .str t.w, t.e, .ref l1, .int 0]) hl2)
    have hl1' : upd (upd H l1 (.lst [.ref a])) l2 (.lst [.non, .ref q, .str (strF t), .str t.w, t.e, .ref l1, .int 0]) l1 = some (.lst [.ref a]) := same_new hl2 _ _ upd_same
    have hl2' : upd (upd H l1 (.lst [.ref a])) l2 (.lst [.non, .ref q, .str (strF t), .str t.w, t.e, .ref l1, .int 0]) l2 = some (.lst [.non, .ref q, .str (strF t), .str t.w, t.e, .ref l1, .int 0]) := upd_same
    generalize upd (upd H l1 (.lst [.ref a])) l2 (.lst [.non, .ref q, .str (strF t), .str t.w, t.e, .ref l1, .int 0]) = H2 at s2 hl1' hl2' ⊢
    refine ⟨_, rfl, l2, rfl, ⟨_, SqL.of hl2'⟩, fun D hD => ?_⟩
    refine lc_list (K := K) (a := l2) (xs := [.non, .ref q, .str (strF t), .str t.w, t.e, .ref l1, .int 0]) (fun i H' => H' D = some (.lst ((List.replicate i false).map V.bl)) ∧ L2.Same H2 H')
      ⟨upd_same, same_new hD⟩ (fun i H' _ ⟨_, s3⟩ => SqL.of (s3 _ _ hl2')) (fun i x H' hx ⟨d1, s3⟩ => ?_) (fun H' ⟨d1, s3⟩ => ?_)
    · have hi : i < 7 := (List.getElem?_eq_some_iff.mp hx).1
      have ty : ∃ ty : String, TyX K H' x (.type ty) ∧ ty ∈ (["NoneType", "tuple", "str", "int", "list"] : List String) := by
        have := List.mem_of_getElem? hx
        simp only [List.mem_cons, List.not_mem_nil, or_false] at this
        rcases this with rfl | rfl | rfl | rfl | rfl | rfl | rfl
        · exact ⟨"NoneType", .base .non, by decide⟩
        · exact ⟨"tuple", .base (.tup (s3 _ _ (s2 _ _ hq))), by decide⟩
        · exact ⟨"str", .base (.str _), by decide⟩
        · exact ⟨"str", .base (.str _), by decide⟩
        · cases t with
          | free => exact ⟨"NoneType", .base .non, by decide⟩
          | f sg n => exact ⟨"int", .base (.int n), by decide⟩
        · exact ⟨"list", .base (.lst (s3 _ _ hl1')), by decide⟩
        · exact ⟨"int", .base (.int 0), by decide⟩
      obtain ⟨ty, htx, hm⟩ := ty
      refine ⟨rfl, _, rfl, _, rfl, a, dx, _, .type ty, rfl, s3 _ _ (s2 _ _ ha), htx, (M.T.kt ty hm).2, _, x, t, rfl, (hv.same s2).same s3, .inr ⟨ty, htx, hm, ?_⟩⟩
      refine ⟨_, d1, line_gt (by rw [List.length_map, List.length_replicate]; omega), ?_, fun b o e => ?_⟩
      · rw [List.replicate_succ', List.map_append]
        exact upd_same
      · have nb : b ≠ D := fun z => by
          subst z
          rw [hD] at e
          cases e
        rw [upd_ne nb]
        exact s3 b o e
    · have d1 : H' D = some (.lst ((List.replicate 7 false).map V.bl)) := d1
      refine ⟨(by show 1 ≤ sizeLine; decide), fun l3 hl3 => ⟨_, rfl, l2, _, rfl, .inl (SqL.of (same_new hl3 _ _ (s3 _ _ hl2'))), l3, 7, _, rfl, rfl, upd_same, by decide, by decide, (by show 1 * 7 ≤ sizeLine; decide), fun l4 hl4 => ?_⟩⟩
      have s5 := (same_new (o := .lst [.bl false]) hl3).trans (same_new (o := .lst (List.replicate (7 : Int).toNat [V.bl false]).flatten) hl4)
      have e4 : (List.replicate (7 : Int).toNat [V.bl false]).flatten = (List.replicate 7 false).map V.bl := rfl
      refine ⟨_, _, .lst (SqL.of (s5 _ _ d1)) (dp_bls _), .lst (SqL.of (by rw [e4]; exact upd_same)) (dp_bls _), shaped_bls _, shaped_bls _, ?_⟩
      rw [SeqAt.eqv_refl _ (SeqAt.canLay_of_shaped (shaped_bls _))]
      have sf := (s2.trans s3).trans s5
      refine ⟨_, rfl, iteT ⟨_, rfl, a, dx, _, rfl, sf _ _ ha, ff_no t (by decide +kernel) (by decide +kernel), _, rfl, _, _, t, t, rfl, hv.same sf, hv.same sf, true, true, by rw [cov_self], rfl, ?_⟩⟩
      exact k _ sf
end
end K12
set_option Elab.async false
set_option linter.all false
set_option maxRecDepth 100000
set_option maxHeartbeats 4000000
namespace K12
open PySem L2 UL
theorem two_bls (x y : Bool) : (PyData.list [.bool x, .bool y]).showable = true ∧ (PyData.list [.bool x, .bool y]).hasDict = false ∧ (PyData.list [.bool x, .bool y]).depth ≤ 40 ∧ (PyData.list [.bool x, .bool y]).shown.length ≤ 100 := by
  cases x <;> cases y <;> decide +kernel
theorem one_bl (x : Bool) : (PyData.bool x).showable = true ∧ (PyData.bool x).hasDict = false ∧ (PyData.bool x).depth ≤ 40 ∧ (PyData.bool x).shown.length ≤ 100 := by
  cases x <;> decide +kernel
theorem two_tt (x y : Bool) : PyData.eqv (.list [.bool x, .bool y]) (.list [.bool true, .bool true]) = (x && y) := by
  cases x <;> cases y <;> decide +kernel
theorem sh2 (x y : Bool) : SeqAt.shaped (.list [.bool x, .bool y]) = true := shaped_bls [x, y]
section
variable {P : Program} {w : World} {K : PySem.W.Frag} {mg : Str → Option Value} {base : Heap} {C : Addr}
/-- _law_pair_right(pot, made, told, mate, mate_told) -/
def spPair (C : Addr) : Sp := fun vs H Q _ => ∃ (p : Addr) (v u : V) (q q2 : Addr) (t t' : FT), vs = [.ref p, v, .ref q, u, .ref q2] ∧ Pot H p ∧ FillAt C H v t ∧ TellAt H q t ∧ t.ok ∧ FillAt C H u t' ∧ TellAt H q2 t' ∧ t'.ok ∧ ∀ H' : Hp, Pot H' p → Stay p H H' → Q (.bl true) H'
theorem scPair : FnScope ["_law_pot_here", "_law_made_here", "_law_told", "_law_mate", "_law_mate_told", "_law_due", "_law_wide", "_law_room", "_law_other_room", "_law_one", "_law_less"] ["_law_pot_here", "_law_made_here", "_law_told", "_law_mate", "_law_mate_told"] (defScope sPairR) := ⟨rfl, rfl, rfl, by decide +kernel, rfl, by decide +kernel, by decide +kernel⟩
theorem ok_pair {f : Addr} {fd : FuncData} (F : Fun K "_law_pair_right" "_law_pair_right" sPairR f fd) (L : Hlp P w K mg base C) : FnG P w K mg base 7 f fd ["_law_pot_here", "_law_made_here", "_law_told", "_law_mate", "_law_mate_told"] (spPair C) := by
  have M := L.M
  have B := M.T.bi
  refine FnG.mk' F scPair (fun vs H Q E h => ?_) (fun cdv A outer s H vs Q E hgd hr h => ?_)
  · obtain ⟨p, v, u, q, q2, t, t', rfl, _⟩ := h
    rfl
  · obtain ⟨p, v, u, q, q2, t, t', rfl, hp, hv, hq, ht, hu, hq2, ht', k⟩ := h
    refine ⟨_, pss_cons (ps_set (i := 5) scPair.nd rfl (.inl rfl) (pe_lst (pa_cons (pe_c L.cov hr (by decide) (by rfl) (pa_cons (pv 2) (pa_cons (pv 4) (pa_cons pe_int pa_nil)))) (pa_cons (pe_c L.cov hr (by decide) (by rfl) (pa_cons (pv 4) (pa_cons (pv 2) (pa_cons pe_int pa_nil)))) pa_nil))))
      (pss_cons (ps_if (pt_cmpR op_ne (pe_callB (call_reprD hgd hr.units) (by rfl) B.repr (by decide +kernel) (pa_cons (pe_lst (pa_cons (pe_m (pv 1) M.cCov hr (by decide) (pa_cons (pv 3) pa_nil)) (pa_cons (pe_mK (pv 3) M.cCovK hr (by decide) (pk_cons (pv 1) pk_nil)) pa_nil))) pa_nil))
          (pe_callB (call_reprD hgd hr.units) (by rfl) B.repr (by decide +kernel) (pa_cons (pv 5) pa_nil)) (nomark _)) (pss_one ps_never) pss_nil)
      (pss_cons (ps_if (PW.pt (pw_or (pt_cmpR op_ne (pe_cmpR (op_eqS M.cEq hr (by decide)) (pv 1) (pv 3) (nomark _)) (pe_cmpR (op_eqD hr.units) (pv 2) (pv 4) (nomark _)) (nomark _))
          (pw_or1 (pt_cmpR op_ne (pe_cmpR (op_eqD hr.units) (pv 5) (pe_lst (pa_cons pe_bl (pa_cons pe_bl pa_nil))) (nomark _)) (pe_cmpR (op_eqD hr.units) (pv 2) (pv 4) (nomark _)) (nomark _))))) (pss_one ps_never) pss_nil)
      (pss_cons (ps_set (i := 6) scPair.nd rfl (.inl rfl) (pe_op op_add pe_int (pe_c L.draw hr (by decide) (by rfl) (pa_cons (pv 0) (pa_cons pe_int pa_nil)))))
      (pss_cons (ps_par (i := 7) (j := 8) rfl scPair.nd rfl rfl (by decide) rfl rfl (pa_cons (pe_op op_add (pv 6) (pe_c L.draw hr (by decide) (by rfl) (pa_cons (pv 0) (pa_cons (pe_op op_sub pe_int (pv 6)) pa_nil))))
          (pa_cons (pe_op op_add (pv 6) (pe_c L.draw hr (by decide) (by rfl) (pa_cons (pv 0) (pa_cons (pe_op op_sub pe_int (pv 6)) pa_nil)))) pa_nil)) (by rfl))
      (pss_cons (ps_par (i := 9) (j := 10) rfl scPair.nd rfl rfl (by decide) rfl rfl (pa_cons (pe_m (pv 1) M.cCut hr (by decide) (pa_cons (pv 6) (pa_cons (pv 7) pa_nil))) (pa_cons (pe_m (pv 3) M.cCut hr (by decide) (pa_cons (pv 6) (pa_cons (pv 8) pa_nil))) pa_nil)) (by rfl))
      (pss_cons (ps_set (i := 5) scPair.nd rfl (.inl rfl) (pe_c L.cov hr (by decide) (by rfl) (pa_cons (pe_c L.cut hr (by decide) (by rfl) (pa_cons (pv 2) (pa_cons (pv 6) (pa_cons (pv 7) pa_nil)))) (pa_cons (pe_c L.cut hr (by decide) (by rfl) (pa_cons (pv 4) (pa_cons (pv 6) (pa_cons (pv 8) pa_nil)))) (pa_cons (pv 6) pa_nil)))))
      (pss_one (ps_ret (pe_cmpR op_eq (pe_callB (call_reprD hgd hr.units) (by rfl) B.repr (by decide +kernel) (pa_cons (pe_m (pv 9) M.cCov hr (by decide) (pa_cons (pv 10) pa_nil)) pa_nil))
          (pe_callB (call_reprD hgd hr.units) (by rfl) B.repr (by decide +kernel) (pa_cons (pv 5) pa_nil)) (nomark _)))))))))), ?_⟩
    obtain ⟨a, dx, rfl, ha⟩ := id hv
    obtain ⟨b, dy, rfl, hb⟩ := id hu
    obtain ⟨p1, p2, pq, _⟩ := id hp
    have nap : a ≠ p := ne_of ha pq (by intro z; cases z)
    have nbp : b ≠ p := ne_of hb pq (by intro z; cases z)
    -- due
    refine ⟨_, rfl, _, rfl, q, q2, t, t', 2, rfl, hq, hq2, ht, ht', by decide, by decide, fun H1 s1 => ⟨_, rfl, _, rfl, q2, q, t', t, 2, rfl, s1 _ _ hq2, s1 _ _ hq, ht', ht, by decide, by decide, fun H2 s2 => ⟨(by show 2 ≤ sizeLine; decide), fun l hl => ?_⟩⟩⟩
    rw [covL2 ht', covL2 ht]
    have s3 := (s1.trans s2).trans (same_new (o := .lst [.bl (covF t t'), .bl (covF t' t)]) hl)
    have hl' : upd H2 l (.lst [.bl (covF t t'), .bl (covF t' t)]) l = some (.lst [.bl (covF t t'), .bl (covF t' t)]) := upd_same
    generalize upd H2 l (.lst [.bl (covF t t'), .bl (covF t' t)]) = H3 at s3 hl' ⊢
    -- the two of the program
    refine ⟨_, rfl, a, dx, _, rfl, s3 _ _ ha, ff_no t (by decide +kernel) (by decide +kernel), _, rfl, _, _, t, t', rfl, hv.same s3, hu.same s3, _, rfl, b, dy, _, rfl, s3 _ _ hb, ff_no t' (by decide +kernel) (by decide +kernel), _, rfl, rfl, _, _, t', t, rfl, hu.same s3, hv.same s3,
      (by show 2 ≤ sizeLine; decide), fun l2 hl2 => ?_⟩
    have s4 := s3.trans (same_new (o := .lst [.bl (covF t t'), .bl (covF t' t)]) hl2)
    have hl4 := same_new (o := .lst [.bl (covF t t'), .bl (covF t' t)]) hl2 _ _ hl'
    obtain ⟨z1, z2, z3, z4⟩ := two_bls (covF t t') (covF t' t)
    have zz := line_ge (Nat.le_trans z4 (by decide))
    refine ⟨.ref l2, .list [.bool (covF t t'), .bool (covF t' t)], rfl, .lst (SqL.of upd_same) (.cons (.bl _) (.cons (.bl _) .nil)), z1, z2, z3, zz, _, rfl, .ref l, .list [.bool (covF t t'), .bool (covF t' t)], rfl, .lst (SqL.of hl4) (.cons (.bl _) (.cons (.bl _) .nil)), z1, z2, z3, zz, rfl, _, rfl, ?_⟩
    generalize upd H3 l2 (.lst [.bl (covF t t'), .bl (covF t' t)]) = H4 at s4 hl4 ⊢
    rw [decide_eq_true rfl]
    -- equal just if their tuples are, and if they cover one another
    refine iteF ⟨_, rfl, _, rfl, a, dx, _, _, rfl, s4 _ _ ha, M.T.isi.ty (s4 _ _ hb), self_first, _, _, t, rfl, hv.same s4, .inl ⟨t', hu.same s4, _, rfl, _, rfl, tellD t, tellD t', tell_dp (s4 _ _ hq), tell_dp (s4 _ _ hq2), tell_shaped t, tell_shaped t', rfl, _, rfl, ?_⟩⟩
    rw [tell_eqv, decide_eq_true rfl]
    refine iteF ⟨_, rfl, (by show 2 ≤ sizeLine; decide), fun l3 hl3 => ?_⟩
    have s5 := s4.trans (same_new (o := .lst [.bl true, .bl true]) hl3)
    have hl5 := same_new (o := .lst [.bl true, .bl true]) hl3 _ _ hl4
    refine ⟨.list [.bool (covF t t'), .bool (covF t' t)], .list [.bool true, .bool true], .lst (SqL.of hl5) (.cons (.bl _) (.cons (.bl _) .nil)), .lst (SqL.of upd_same) (.cons (.bl _) (.cons (.bl _) .nil)), sh2 _ _, sh2 _ _, _, rfl, _, rfl, tellD t, tellD t', tell_dp (s5 _ _ hq), tell_dp (s5 _ _ hq2), tell_shaped t, tell_shaped t', rfl, _, rfl, ?_⟩
    rw [two_tt, cov_both, tell_eqv, decide_eq_true rfl]
    generalize upd H4 l3 (.lst [.bl true, .bl true]) = H5 at s5 ⊢
    -- cut at the same width
    have hp5 := hp.same s5
    refine iteF ⟨_, rfl, p, 40, rfl, hp5, by decide, by decide, fun d H6 d0 d1 hp6 t6 => ⟨_, _, rfl, rfl, ?_⟩⟩
    obtain ⟨wi, hwi⟩ : ∃ wi : Int, wi = 2 + d := ⟨_, rfl⟩
    dsimp only
    rw [← hwi]
    have w0 : 2 ≤ wi := by omega
    have w1 : wi ≤ 41 := by omega
    refine ⟨_, rfl, _, rfl, _, rfl, _, _, rfl, rfl, p, _, rfl, hp6, by omega, by omega, fun e1 H7 e10 e11 hp7 t7 => ⟨_, _, rfl, rfl, _, rfl, _, rfl, _, rfl, _, _, rfl, rfl, p, _, rfl, hp7, by omega, by omega, fun e2 H8 e20 e21 hp8 t8 => ⟨_, _, rfl, rfl, _, _, rfl, ?_⟩⟩⟩
    have st8 : Stay p H H8 := ((Same.stay s5 p).trans t6).trans (t7.trans t8)
    have hq8 := st8.tup hp hq
    have hq28 := st8.tup hp hq2
    have hv8 := hv.stay hp st8
    have hu8 := hu.stay hp st8
    have ha8 : H8 a = some (.ins C dx (ff t)) := st8 _ _ nap ha
    have hb8 : H8 b = some (.ins C dy (ff t')) := st8 _ _ nbp hb
    obtain ⟨r1, hr1⟩ : ∃ r : Int, r = wi + e1 := ⟨_, rfl⟩
    obtain ⟨r2, hr2⟩ : ∃ r : Int, r = wi + e2 := ⟨_, rfl⟩
    dsimp only
    rw [← hr1, ← hr2]
    refine ⟨_, rfl, a, dx, _, rfl, ha8, ff_no t (by decide +kernel) (by decide +kernel), _, rfl, _, rfl, _, t, wi, r1, rfl, hv8, ht, w0, by omega, by omega, by omega, fun x1 H9 s9 hx1 => ?_⟩
    refine ⟨_, rfl, b, dy, _, rfl, s9 _ _ hb8, ff_no t' (by decide +kernel) (by decide +kernel), _, rfl, _, rfl, _, t', wi, r2, rfl, hu8.same s9, ht', w0, by omega, by omega, by omega, fun x2 H10 s10 hx2 => ⟨_, _, rfl, ?_⟩⟩
    have s89 := s9.trans s10
    have ok1 := cutF_ok ht w0 (show r1 ≤ 128 by omega)
    have ok2 := cutF_ok ht' w0 (show r2 ≤ 128 by omega)
    refine ⟨_, rfl, _, rfl, _, rfl, q, t, wi, r1, rfl, s89 _ _ hq8, ht, w0, by omega, by omega, fun q3 H11 s11 hq3 => ⟨_, rfl, _, rfl, _, rfl, q2, t', wi, r2, rfl, s11 _ _ (s89 _ _ hq28), ht', w0, by omega, by omega, fun q4 H12 s12 hq4 => ⟨_, rfl, q3, q4, _, _, wi, rfl, s12 _ _ hq3, hq4, ok1, ok2, by omega, by omega, fun H13 s13 => ?_⟩⟩⟩
    rw [covLw ht']
    have s813 := ((s89.trans s11).trans s12).trans s13
    have hx1' := ((hx1.same s10).same (s11.trans s12)).same s13
    have hx2' := (hx2.same (s11.trans s12)).same s13
    obtain ⟨c1, dc1, rfl, hc1⟩ := id hx1'
    refine ⟨_, rfl, c1, dc1, _, rfl, hc1, ff_no _ (by decide +kernel) (by decide +kernel), _, rfl, _, _, _, _, rfl, hx1', hx2', ?_⟩
    obtain ⟨y1, y2, y3, y4⟩ := one_bl (covF (cutF t wi r1) (cutF t' wi r2))
    have yz := line_ge (Nat.le_trans y4 (by decide))
    refine ⟨_, _, rfl, .bl _, y1, y2, y3, yz, _, rfl, _, _, rfl, .bl _, y1, y2, y3, yz, rfl, ?_⟩
    rw [decide_eq_true rfl]
    exact k H13 (hp8.same s813) (st8.trans (Same.stay s813 p))
end
end K12
set_option Elab.async false
set_option linter.all false
set_option maxRecDepth 100000
set_option maxHeartbeats 4000000
namespace K12
open PySem L2 UL
abbrev sRight : Stmt := top 29
section
variable {P : Program} {w : World} {K : PySem.W.Frag} {mg : Str → Option Value} {base : Heap} {C : Addr}
/-- _law_right(pot) -/
def spR : Sp := fun vs H Q _ => ∃ (p : Addr), vs = [.ref p] ∧ Pot H p ∧ ∀ H' : Hp, Pot H' p → Stay p H H' → Q (.bl true) H'
theorem scRight : FnScope ["_law_pot_here", "_law_near", "_law_turn", "_law_told", "_law_mate_told", "_law_made_here", "_law_mate"] ["_law_pot_here"] (defScope sRight) := ⟨rfl, rfl, rfl, by decide +kernel, rfl, by decide +kernel, by decide +kernel⟩
theorem ok_right {f : Addr} {fd : FuncData} (F : Fun K "_law_right" "_law_right" sRight f fd) (L : Hlp P w K mg base C) (cc : Cal P w K mg base 7 "_law_cut_right" (spRight C)) (cp : CalG P w K mg base 7 "_law_pair_right" (spPair C)) (cu : Cal P w K mg base 4 "_law_unlike_right" (spShown C)) :
    FnG P w K mg base 8 f fd ["_law_pot_here"] spR := by
  have M := L.M
  have B := M.T.bi
  refine FnG.mk' F scRight (fun vs H Q E h => ?_) (fun cdv A outer s H vs Q E hgd hr h => ?_)
  · obtain ⟨p, rfl, _⟩ := h
    rfl
  · obtain ⟨p, rfl, hp, k⟩ := h
    refine ⟨_, pss_cons (ps_set (i := 1) scRight.nd rfl (.inl rfl) (pe_op op_add pe_int (pe_c L.draw hr (by decide) (by rfl) (pa_cons (pv 0) (pa_cons pe_int pa_nil)))))
      (pss_cons (ps_for PassesOwn.never rfl (pi_range1 (by rfl) B.range (pa_cons pe_int pa_nil)) (pg_name (i := 2) scRight.nd rfl (.inl rfl))
        (pss_cons (ps_par (i := 3) (j := 4) rfl scRight.nd rfl rfl (by decide) rfl rfl (pa_cons (pe_c L.fill hr (by decide) (by rfl) (pa_cons (pv 0) (pa_cons (pv 1) pa_nil))) (pa_cons (pe_c L.fill hr (by decide) (by rfl) (pa_cons (pv 0) (pa_cons (pv 1) pa_nil))) pa_nil)) (by rfl))
        (pss_cons (ps_par (i := 5) (j := 6) rfl scRight.nd rfl rfl (by decide) rfl rfl (pa_cons (pe_c L.made hr (by decide) (by rfl) (pa_cons (pv 0) (pa_cons (pv 3) pa_nil))) (pa_cons (pe_c L.made hr (by decide) (by rfl) (pa_cons (pv 0) (pa_cons (pv 4) pa_nil))) pa_nil)) (by rfl))
        (pss_cons (ps_if (PW.pt (pw_or (pt_not (pt_val (pe_c L.shown hr (by decide) (by rfl) (pa_cons (pv 5) (pa_cons (pv 3) pa_nil)))))
            (pw_or1 (pt_not (pt_val (pe_c cc hr (by decide) (by rfl) (pa_cons (pv 0) (pa_cons (pv 5) (pa_cons (pv 3) pa_nil))))))))) (pss_one ps_never) pss_nil)
        (pss_one (ps_if (PW.pt (pw_or (pt_not (pt_val (pe_cG hgd cp hr (by decide) (by rfl) (pa_cons (pv 0) (pa_cons (pv 5) (pa_cons (pv 3) (pa_cons (pv 6) (pa_cons (pv 4) pa_nil))))))))
            (pw_or1 (pt_not (pt_val (pe_c cu hr (by decide) (by rfl) (pa_cons (pv 5) (pa_cons (pv 3) pa_nil)))))))) (pss_one ps_never) pss_nil))))))
      (pss_one (ps_ret pe_bl))), ?_⟩
    refine ⟨_, rfl, p, 126, rfl, hp, by decide, by decide, fun d H1 d0 d1 hp1 st1 => ⟨_, _, rfl, rfl, ?_⟩⟩
    obtain ⟨nr, hnr⟩ : ∃ nr : Int, nr = 3 + d := ⟨_, rfl⟩
    dsimp only
    rw [← hnr]
    refine ⟨4, rfl, by decide, by decide, for_range (lo := 0) (n := 4) (fun _ σ H' => (∃ x1 x2 x3 x4 x5 : Option V, σ = [some (.ref p), some (.int nr), x1, x2, x3, x4, x5]) ∧ Pot H' p ∧ Stay p H H') ⟨⟨_, _, _, _, _, rfl⟩, hp1, st1⟩ (fun i σ H2 hi ⟨⟨x1, x2, x3, x4, x5, e⟩, hp2, st2⟩ => ?_) (fun σ H2 ⟨_, hp2, st2⟩ => ?_)⟩
    · subst e
      refine ⟨_, rfl, _, rfl, p, nr, rfl, hp2, fun q1 t1 H3 ht1 hq1 hp3 st3 => ⟨_, rfl, _, rfl, p, nr, rfl, hp3, fun q2 t2 H4 ht2 hq2 hp4 st4 => ⟨_, _, rfl, ?_⟩⟩⟩
      have hq1' := st4.tup hp3 hq1
      refine ⟨_, rfl, _, rfl, p, q1, t1, rfl, hp4, hq1', ht1, fun v1 H5 hv1 hp5 st5 => ⟨_, rfl, _, rfl, p, q2, t2, rfl, hp5, st5.tup hp4 hq2, ht2, fun v2 H6 hv2 hp6 st6 => ⟨_, _, rfl, ?_⟩⟩⟩
      have hv1' := hv1.stay hp5 st6
      have hq1'' := st6.tup hp5 (st5.tup hp4 hq1')
      have hq2'' := st6.tup hp5 (st5.tup hp4 hq2)
      have st26 := ((st3.trans st4).trans st5).trans st6
      refine ⟨_, rfl, _, rfl, v1, q1, t1, rfl, hv1', hq1'', ht1, fun H7 s7 => ⟨_, rfl, ?_⟩⟩
      have hp7 := hp6.same s7
      refine iteF ⟨_, rfl, _, rfl, _, rfl, p, v1, q1, t1, rfl, hp7, hv1'.same s7, s7 _ _ hq1'', ht1, fun H8 hp8 st8 => ⟨_, rfl, iteF ?_⟩⟩
      have st28 := (st26.trans (Same.stay s7 p)).trans st8
      have hv18 := (hv1'.same s7).stay hp7 st8
      have hq18 := st8.tup hp7 (s7 _ _ hq1'')
      refine ⟨_, rfl, _, rfl, _, rfl, _, rfl, _, rfl, p, v1, v2, q1, q2, t1, t2, rfl, hp8, hv18, hq18, ht1, (hv2.same s7).stay hp7 st8, st8.tup hp7 (s7 _ _ hq2''), ht2, fun H9 hp9 st9 => ⟨_, rfl, ?_⟩⟩
      refine iteF ⟨_, rfl, _, rfl, v1, q1, t1, rfl, hv18.stay hp8 st9, st9.tup hp8 hq18, ht1, fun H10 s10 => ⟨_, rfl, iteF ?_⟩⟩
      exact ⟨⟨_, _, _, _, _, rfl⟩, hp9.same s10, (st2.trans (st28.trans st9)).trans (Same.stay s10 p)⟩
    · exact k H2 hp2 st2
end
end K12
set_option Elab.async false
set_option linter.all false
set_option maxRecDepth 100000
set_option maxHeartbeats 4000000
namespace UL
open PySem L2
theorem SqL.past {K : PySem.W.Frag} {a p : Addr} {H H1 H2 : Hp} {xs : List V} (h : SqL K H a xs) (hp : H p = none) (s : L2.Same H H1) (st : Stay p H1 H2) : SqL K H2 a xs := by
  rcases h with (h | ⟨o, h⟩) | h
  · exact .inl (.inl (st _ _ (ne_of_none h hp) (s _ _ h)))
  · exact .inl (.inr ⟨o, st _ _ (ne_of_none h hp) (s _ _ h)⟩)
  · exact .inr h
theorem sq_same {K : PySem.W.Frag} {a : Addr} {H H1 : Hp} {xs : List V} (h : SqL K H a xs) (s : L2.Same H H1) : SqL K H1 a xs := by
  rcases h with (h | ⟨o, h⟩) | h
  · exact .inl (.inl (s _ _ h))
  · exact .inl (.inr ⟨o, s _ _ h⟩)
  · exact .inr h
theorem sq_off {K : PySem.W.Frag} {a D : Addr} {H : Hp} {xs : List V} (h : SqL K H a xs) (hD : H D = none) : ∀ (H2 : Hp) (o : HO), SqL K H2 a xs → SqL K (upd H2 D o) a xs := by
  intro H2 o h2
  have key : a ≠ D → SqL K (upd H2 D o) a xs := fun n => by
    rcases h2 with (h2 | ⟨u, h2⟩) | h2
    · exact .inl (.inl (by rw [upd_ne n]; exact h2))
    · exact .inl (.inr ⟨u, by rw [upd_ne n]; exact h2⟩)
    · exact .inr h2
  rcases h with (h | ⟨u, h⟩) | h
  · exact key (ne_of_none h hD)
  · exact key (ne_of_none h hD)
  · exact .inr h
theorem four {z : Int} : (if (if 4 < z then 4 else z) > 1 then (if 4 < z then 4 else z) else 1) ≤ 4 ∧ 1 ≤ (if (if 4 < z then 4 else z) > 1 then (if 4 < z then 4 else z) else 1) := by
  by_cases c : 4 < z
  · rw [if_pos c, if_pos (by decide)]
    decide
  · rw [if_neg c]
    by_cases d : z > 1
    · rw [if_pos d]
      omega
    · rw [if_neg d]
      decide
end UL
namespace K12
open PySem L2 UL
abbrev sLaw : Stmt := top 30
section
variable {P : Program} {w : World} {K : PySem.W.Frag} {mg : Str → Option Value} {base : Heap} {C : Addr}
/-- law(script) -/
def spLaw (K : PySem.W.Frag) : Sp := fun vs H Q _ => ∃ (a : Addr) (ns : List Int), vs = [.ref a] ∧ SqL K H a (ns.map V.int) ∧ ns.length ≤ 63 ∧ ∀ H' : Hp, Q (.bl true) H'
theorem scLaw : FnScope ["_law_script", "_law_k"] ["_law_script"] (defScope sLaw) := ⟨rfl, rfl, rfl, by decide +kernel, rfl, by decide +kernel, by decide +kernel⟩
theorem ok_law {f : Addr} {fd : FuncData} (F : Fun K "law" "law" sLaw f fd) (B : Bi mg) (cp : Cal P w K mg base 1 "_law_pot" (spPot K)) (cr : CalG P w K mg base 8 "_law_right" spR) :
    FnG P w K mg base 9 f fd ["_law_script"] (spLaw K) := by
  refine FnG.mk' F scLaw (fun vs H Q E h => ?_) (fun cdv A outer s H vs Q E hgd hr h => ?_)
  · obtain ⟨a, ns, rfl, _⟩ := h
    rfl
  · obtain ⟨a, ns, rfl, hS, hn, k⟩ := h
    refine ⟨_, pss_one (ps_ret (pe_callB (cr_all rfl) (by rfl) B.all (by decide +kernel) (pa_cons (pe_lc (own := [("_law_k", 1)]) (g := gName 1) (tt := tYes) rfl scLaw.nd
        (pi_range1 (by rfl) B.range (pa_cons (pe_callB (call_max2 rfl) (by rfl) B.max (by decide +kernel) (pa_cons pe_int (pa_cons (pe_callB (call_min2 rfl) (by rfl) B.min (by decide +kernel) (pa_cons (pe_callB call_len_seq (by rfl) B.len PySem.boot_len (pa_cons (pv 0) pa_nil)) (pa_cons pe_int pa_nil))) pa_nil))) pa_nil))
        (blkOk_by (N := ["_law_script", "_law_k"]) (sc := defScope sLaw) (by decide +kernel)) (fun _ _ _ _ _ => pg_name (i := 1) scLaw.nd rfl (Or.inl rfl)) (fun _ _ _ _ _ => pts_nil)
        (fun _ _ _ _ _ => pe_cG hgd cr hr (by decide) (by rfl) (pa_cons (pe_c cp hr (by decide) (by rfl) (pa_cons (pv 0) (pa_cons (pv 1) pa_nil))) pa_nil))) pa_nil))), ?_⟩
    refine ⟨_, rfl, a, _, rfl, .inl hS, ?_⟩
    refine ⟨_, _, rfl, _, _, rfl, ?_⟩
    obtain ⟨m4, m1⟩ := four (z := ((ns.map V.int).length : Int))
    generalize (if (if 4 < ((ns.map V.int).length : Int) then 4 else ((ns.map V.int).length : Int)) > 1 then (if 4 < ((ns.map V.int).length : Int) then 4 else ((ns.map V.int).length : Int)) else 1) = m at m4 m1
    refine ⟨m, rfl, by omega, by omega, fun D hD => ?_⟩
    refine lc_range (lo := 0) (n := m.toNat) (fun i H' => H' D = some (.lst ((List.replicate i true).map V.bl)) ∧ SqL K H' a (ns.map V.int)) ⟨upd_same, sq_same hS (same_new hD)⟩ (fun i H' hi ⟨d1, s1⟩ => ?_) (fun H' ⟨d1, s1⟩ => ?_)
    · refine ⟨rfl, _, rfl, _, rfl, a, ns, _, rfl, s1, by omega, by omega, fun p H1 np hp sm => ?_⟩
      refine ⟨p, rfl, hp, fun H2 hp2 st => ⟨_, st _ _ (ne_of_none d1 np) (sm _ _ d1), line_gt (by rw [List.length_map, List.length_replicate]; omega), ?_, ?_⟩⟩
      · rw [List.replicate_succ', List.map_append]
        exact upd_same
      · have sS := SqL.past s1 np sm st
        exact sq_off hS hD _ _ sS
    · refine ⟨D, _, rfl, SqL.of d1, ?_⟩
      have e : ((List.replicate m.toNat true).all id) = true := by
        rw [List.all_eq_true]
        intro x hx
        rw [List.eq_of_mem_replicate hx]
        rfl
      rw [e]
      exact k H'
end
end K12
set_option Elab.async false
set_option linter.all false
set_option maxRecDepth 100000
set_option maxHeartbeats 4000000
namespace K12
open PySem PySem.Spec PyProof.Rows L2 UL
theorem all_mk {l : PySem.W.OpenLaw} {w : World} {K : PySem.W.Frag} {h : Heap} {mg : Str → Option Value} {fa C T0 f_btw f_wrd f_pot f_drw f_pck f_fil f_mad f_bit f_ctl f_cvl f_txt f_shw f_ctr f_par f_unl f_rgt f_law f_ini f_cut f_cov f_eq f_st f_rp f_pw f_pe f_pf f_rd p_pw p_pe p_pf p_rd : Addr} (X : K.In h) (G : h.Ns mainGlobals mg) (hfa : mg "law" = some (.ref fa))
    {od_btw an_btw od_wrd an_wrd od_pot an_pot od_drw an_drw od_pck an_pck od_fil an_fil od_mad an_mad od_bit an_bit od_ctl an_ctl od_cvl an_cvl od_txt an_txt od_shw an_shw od_ctr an_ctr od_par an_par od_unl an_unl od_rgt an_rgt od_law an_law od_ini an_ini od_cut an_cut od_cov an_cov od_eq an_eq od_st an_st od_rp an_rp od_pw an_pw od_pe an_pe od_pf an_pf od_rd an_rd odT : Option Addr} {sl_btw sl_wrd sl_pot sl_drw sl_pck sl_fil sl_mad sl_bit sl_ctl sl_cvl sl_txt sl_shw sl_ctr sl_par sl_unl sl_rgt sl_law sl_ini sl_cut sl_cov sl_eq sl_st sl_rp sl_pw sl_pe sl_pf sl_rd slT : Array (Option Value)} {oc_btw kV_btw dc_btw pm_btw cd_btw ct_btw oc_wrd kV_wrd dc_wrd pm_wrd cd_wrd ct_wrd oc_pot kV_pot dc_pot pm_pot cd_pot ct_pot oc_drw kV_drw dc_drw pm_drw cd_drw ct_drw oc_pck kV_pck dc_pck pm_pck cd_pck ct_pck oc_fil kV_fil dc_fil pm_fil cd_fil ct_fil oc_mad kV_mad dc_mad pm_mad cd_mad ct_mad oc_bit kV_bit dc_bit pm_bit cd_bit ct_bit oc_ctl kV_ctl dc_ctl pm_ctl cd_ctl ct_ctl oc_cvl kV_cvl dc_cvl pm_cvl cd_cvl ct_cvl oc_txt kV_txt dc_txt pm_txt cd_txt ct_txt oc_shw kV_shw dc_shw pm_shw cd_shw ct_shw oc_ctr kV_ctr dc_ctr pm_ctr cd_ctr ct_ctr oc_par kV_par dc_par pm_par cd_par ct_par oc_unl kV_unl dc_unl pm_unl cd_unl ct_unl oc_rgt kV_rgt dc_rgt pm_rgt cd_rgt ct_rgt oc_law kV_law dc_law pm_law cd_law ct_law oc_ini kV_ini dc_ini pm_ini cd_ini ct_ini oc_cut kV_cut dc_cut pm_cut cd_cut ct_cut oc_cov kV_cov dc_cov pm_cov cd_cov ct_cov oc_eq kV_eq dc_eq pm_eq cd_eq ct_eq oc_st kV_st dc_st pm_st cd_st ct_st oc_rp kV_rp dc_rp pm_rp cd_rp ct_rp oc_pw kV_pw dc_pw pm_pw cd_pw ct_pw oc_pe kV_pe dc_pe pm_pe cd_pe ct_pe oc_pf kV_pf dc_pf pm_pf cd_pf ct_pf oc_rd kV_rd dc_rd pm_rd cd_rd ct_rd ocT u_FREE u_ZEROS u_SIGN u_LEAST_EXTENT u_LEAST_WIDTH u_MOST_BITS : Value} {re_pw re_pe re_pf re_rd : List Value} {itT : Array Value} {nT : Nat}
    (aC : PySem.W.nsIn K mainGlobals "Fill" = some (some (.ref C)))
    (a_btw : PySem.W.nsIn K mainGlobals "is_between" = some (some (.ref f_btw)))
    (l_btw : K.lookup f_btw = some ⟨oc_btw, od_btw, .func (PySem.W.fnOf "is_between" "is_between" (defArgs sBetw) (defBody sBetw) (defScope sBetw) .none kV_btw dc_btw pm_btw an_btw cd_btw ct_btw), sl_btw⟩)
    (c_btw : PySem.W.codeIn K cd_btw "is_between" = true)
    (k_btw : PySem.W.keepIn K (.ref f_btw) = true)
    (a_wrd : PySem.W.nsIn K mainGlobals "is_word_of" = some (some (.ref f_wrd)))
    (l_wrd : K.lookup f_wrd = some ⟨oc_wrd, od_wrd, .func (PySem.W.fnOf "is_word_of" "is_word_of" (defArgs sWord) (defBody sWord) (defScope sWord) .none kV_wrd dc_wrd pm_wrd an_wrd cd_wrd ct_wrd), sl_wrd⟩)
    (c_wrd : PySem.W.codeIn K cd_wrd "is_word_of" = true)
    (k_wrd : PySem.W.keepIn K (.ref f_wrd) = true)
    (a_pot : PySem.W.nsIn K mainGlobals "_law_pot" = some (some (.ref f_pot)))
    (l_pot : K.lookup f_pot = some ⟨oc_pot, od_pot, .func (PySem.W.fnOf "_law_pot" "_law_pot" (defArgs sPot) (defBody sPot) (defScope sPot) .none kV_pot dc_pot pm_pot an_pot cd_pot ct_pot), sl_pot⟩)
    (c_pot : PySem.W.codeIn K cd_pot "_law_pot" = true)
    (k_pot : PySem.W.keepIn K (.ref f_pot) = true)
    (a_drw : PySem.W.nsIn K mainGlobals "_law_draw" = some (some (.ref f_drw)))
    (l_drw : K.lookup f_drw = some ⟨oc_drw, od_drw, .func (PySem.W.fnOf "_law_draw" "_law_draw" (defArgs sDraw) (defBody sDraw) (defScope sDraw) .none kV_drw dc_drw pm_drw an_drw cd_drw ct_drw), sl_drw⟩)
    (c_drw : PySem.W.codeIn K cd_drw "_law_draw" = true)
    (k_drw : PySem.W.keepIn K (.ref f_drw) = true)
    (a_pck : PySem.W.nsIn K mainGlobals "_law_pick" = some (some (.ref f_pck)))
    (l_pck : K.lookup f_pck = some ⟨oc_pck, od_pck, .func (PySem.W.fnOf "_law_pick" "_law_pick" (defArgs sPick) (defBody sPick) (defScope sPick) .none kV_pck dc_pck pm_pck an_pck cd_pck ct_pck), sl_pck⟩)
    (c_pck : PySem.W.codeIn K cd_pck "_law_pick" = true)
    (k_pck : PySem.W.keepIn K (.ref f_pck) = true)
    (a_fil : PySem.W.nsIn K mainGlobals "_law_fill" = some (some (.ref f_fil)))
    (l_fil : K.lookup f_fil = some ⟨oc_fil, od_fil, .func (PySem.W.fnOf "_law_fill" "_law_fill" (defArgs sFill) (defBody sFill) (defScope sFill) .none kV_fil dc_fil pm_fil an_fil cd_fil ct_fil), sl_fil⟩)
    (c_fil : PySem.W.codeIn K cd_fil "_law_fill" = true)
    (k_fil : PySem.W.keepIn K (.ref f_fil) = true)
    (a_mad : PySem.W.nsIn K mainGlobals "_law_made" = some (some (.ref f_mad)))
    (l_mad : K.lookup f_mad = some ⟨oc_mad, od_mad, .func (PySem.W.fnOf "_law_made" "_law_made" (defArgs sMade) (defBody sMade) (defScope sMade) .none kV_mad dc_mad pm_mad an_mad cd_mad ct_mad), sl_mad⟩)
    (c_mad : PySem.W.codeIn K cd_mad "_law_made" = true)
    (k_mad : PySem.W.keepIn K (.ref f_mad) = true)
    (a_bit : PySem.W.nsIn K mainGlobals "_law_bits" = some (some (.ref f_bit)))
    (l_bit : K.lookup f_bit = some ⟨oc_bit, od_bit, .func (PySem.W.fnOf "_law_bits" "_law_bits" (defArgs sBits) (defBody sBits) (defScope sBits) .none kV_bit dc_bit pm_bit an_bit cd_bit ct_bit), sl_bit⟩)
    (c_bit : PySem.W.codeIn K cd_bit "_law_bits" = true)
    (k_bit : PySem.W.keepIn K (.ref f_bit) = true)
    (a_ctl : PySem.W.nsIn K mainGlobals "_law_cut" = some (some (.ref f_ctl)))
    (l_ctl : K.lookup f_ctl = some ⟨oc_ctl, od_ctl, .func (PySem.W.fnOf "_law_cut" "_law_cut" (defArgs sCutL) (defBody sCutL) (defScope sCutL) .none kV_ctl dc_ctl pm_ctl an_ctl cd_ctl ct_ctl), sl_ctl⟩)
    (c_ctl : PySem.W.codeIn K cd_ctl "_law_cut" = true)
    (k_ctl : PySem.W.keepIn K (.ref f_ctl) = true)
    (a_cvl : PySem.W.nsIn K mainGlobals "_law_covers" = some (some (.ref f_cvl)))
    (l_cvl : K.lookup f_cvl = some ⟨oc_cvl, od_cvl, .func (PySem.W.fnOf "_law_covers" "_law_covers" (defArgs sCovL) (defBody sCovL) (defScope sCovL) .none kV_cvl dc_cvl pm_cvl an_cvl cd_cvl ct_cvl), sl_cvl⟩)
    (c_cvl : PySem.W.codeIn K cd_cvl "_law_covers" = true)
    (k_cvl : PySem.W.keepIn K (.ref f_cvl) = true)
    (a_txt : PySem.W.nsIn K mainGlobals "_law_text" = some (some (.ref f_txt)))
    (l_txt : K.lookup f_txt = some ⟨oc_txt, od_txt, .func (PySem.W.fnOf "_law_text" "_law_text" (defArgs sText) (defBody sText) (defScope sText) .none kV_txt dc_txt pm_txt an_txt cd_txt ct_txt), sl_txt⟩)
    (c_txt : PySem.W.codeIn K cd_txt "_law_text" = true)
    (k_txt : PySem.W.keepIn K (.ref f_txt) = true)
    (a_shw : PySem.W.nsIn K mainGlobals "_law_shown_right" = some (some (.ref f_shw)))
    (l_shw : K.lookup f_shw = some ⟨oc_shw, od_shw, .func (PySem.W.fnOf "_law_shown_right" "_law_shown_right" (defArgs sShown) (defBody sShown) (defScope sShown) .none kV_shw dc_shw pm_shw an_shw cd_shw ct_shw), sl_shw⟩)
    (c_shw : PySem.W.codeIn K cd_shw "_law_shown_right" = true)
    (k_shw : PySem.W.keepIn K (.ref f_shw) = true)
    (a_ctr : PySem.W.nsIn K mainGlobals "_law_cut_right" = some (some (.ref f_ctr)))
    (l_ctr : K.lookup f_ctr = some ⟨oc_ctr, od_ctr, .func (PySem.W.fnOf "_law_cut_right" "_law_cut_right" (defArgs sCutR) (defBody sCutR) (defScope sCutR) .none kV_ctr dc_ctr pm_ctr an_ctr cd_ctr ct_ctr), sl_ctr⟩)
    (c_ctr : PySem.W.codeIn K cd_ctr "_law_cut_right" = true)
    (k_ctr : PySem.W.keepIn K (.ref f_ctr) = true)
    (a_par : PySem.W.nsIn K mainGlobals "_law_pair_right" = some (some (.ref f_par)))
    (l_par : K.lookup f_par = some ⟨oc_par, od_par, .func (PySem.W.fnOf "_law_pair_right" "_law_pair_right" (defArgs sPairR) (defBody sPairR) (defScope sPairR) .none kV_par dc_par pm_par an_par cd_par ct_par), sl_par⟩)
    (c_par : PySem.W.codeIn K cd_par "_law_pair_right" = true)
    (k_par : PySem.W.keepIn K (.ref f_par) = true)
    (a_unl : PySem.W.nsIn K mainGlobals "_law_unlike_right" = some (some (.ref f_unl)))
    (l_unl : K.lookup f_unl = some ⟨oc_unl, od_unl, .func (PySem.W.fnOf "_law_unlike_right" "_law_unlike_right" (defArgs sUnl) (defBody sUnl) (defScope sUnl) .none kV_unl dc_unl pm_unl an_unl cd_unl ct_unl), sl_unl⟩)
    (c_unl : PySem.W.codeIn K cd_unl "_law_unlike_right" = true)
    (k_unl : PySem.W.keepIn K (.ref f_unl) = true)
    (a_rgt : PySem.W.nsIn K mainGlobals "_law_right" = some (some (.ref f_rgt)))
    (l_rgt : K.lookup f_rgt = some ⟨oc_rgt, od_rgt, .func (PySem.W.fnOf "_law_right" "_law_right" (defArgs sRight) (defBody sRight) (defScope sRight) .none kV_rgt dc_rgt pm_rgt an_rgt cd_rgt ct_rgt), sl_rgt⟩)
    (c_rgt : PySem.W.codeIn K cd_rgt "_law_right" = true)
    (k_rgt : PySem.W.keepIn K (.ref f_rgt) = true)
    (a_law : PySem.W.nsIn K mainGlobals "law" = some (some (.ref f_law)))
    (l_law : K.lookup f_law = some ⟨oc_law, od_law, .func (PySem.W.fnOf "law" "law" (defArgs sLaw) (defBody sLaw) (defScope sLaw) .none kV_law dc_law pm_law an_law cd_law ct_law), sl_law⟩)
    (c_law : PySem.W.codeIn K cd_law "law" = true)
    (k_law : PySem.W.keepIn K (.ref f_law) = true)
    (a_ini : PySem.W.findIn K (.ref C) "__init__" = some (some (.ref f_ini)))
    (i_ini : PySem.W.isFn K (.ref f_ini) = true)
    (l_ini : K.lookup f_ini = some ⟨oc_ini, od_ini, .func (PySem.W.fnOf "__init__" "Fill.__init__" (defArgs sInit) (defBody sInit) (defScope sInit) (.ref T0) kV_ini dc_ini pm_ini an_ini cd_ini ct_ini), sl_ini⟩)
    (c_ini : PySem.W.codeIn K cd_ini "Fill.__init__" = true)
    (k_ini : PySem.W.keepIn K (.ref f_ini) = true)
    (tO : K.lookup T0 = some ⟨ocT, odT, .seq itT nT, slT⟩)
    (vT : Vals [.str "free", .non] itT.toList)
    (a_cut : PySem.W.findIn K (.ref C) "cut" = some (some (.ref f_cut)))
    (i_cut : PySem.W.isFn K (.ref f_cut) = true)
    (l_cut : K.lookup f_cut = some ⟨oc_cut, od_cut, .func (PySem.W.fnOf "cut" "Fill.cut" (defArgs sCut) (defBody sCut) (defScope sCut) .none kV_cut dc_cut pm_cut an_cut cd_cut ct_cut), sl_cut⟩)
    (c_cut : PySem.W.codeIn K cd_cut "Fill.cut" = true)
    (k_cut : PySem.W.keepIn K (.ref f_cut) = true)
    (a_cov : PySem.W.findIn K (.ref C) "covers" = some (some (.ref f_cov)))
    (i_cov : PySem.W.isFn K (.ref f_cov) = true)
    (l_cov : K.lookup f_cov = some ⟨oc_cov, od_cov, .func (PySem.W.fnOf "covers" "Fill.covers" (defArgs sCov) (defBody sCov) (defScope sCov) .none kV_cov dc_cov pm_cov an_cov cd_cov ct_cov), sl_cov⟩)
    (c_cov : PySem.W.codeIn K cd_cov "Fill.covers" = true)
    (k_cov : PySem.W.keepIn K (.ref f_cov) = true)
    (a_eq : PySem.W.findIn K (.ref C) "__eq__" = some (some (.ref f_eq)))
    (i_eq : PySem.W.isFn K (.ref f_eq) = true)
    (l_eq : K.lookup f_eq = some ⟨oc_eq, od_eq, .func (PySem.W.fnOf "__eq__" "Fill.__eq__" (defArgs sEq) (defBody sEq) (defScope sEq) .none kV_eq dc_eq pm_eq an_eq cd_eq ct_eq), sl_eq⟩)
    (c_eq : PySem.W.codeIn K cd_eq "Fill.__eq__" = true)
    (k_eq : PySem.W.keepIn K (.ref f_eq) = true)
    (a_st : PySem.W.findIn K (.ref C) "__str__" = some (some (.ref f_st)))
    (i_st : PySem.W.isFn K (.ref f_st) = true)
    (l_st : K.lookup f_st = some ⟨oc_st, od_st, .func (PySem.W.fnOf "__str__" "Fill.__str__" (defArgs sStr) (defBody sStr) (defScope sStr) .none kV_st dc_st pm_st an_st cd_st ct_st), sl_st⟩)
    (c_st : PySem.W.codeIn K cd_st "Fill.__str__" = true)
    (k_st : PySem.W.keepIn K (.ref f_st) = true)
    (a_rp : PySem.W.findIn K (.ref C) "__repr__" = some (some (.ref f_rp)))
    (i_rp : PySem.W.isFn K (.ref f_rp) = true)
    (l_rp : K.lookup f_rp = some ⟨oc_rp, od_rp, .func (PySem.W.fnOf "__repr__" "Fill.__repr__" (defArgs sRepr) (defBody sRepr) (defScope sRepr) .none kV_rp dc_rp pm_rp an_rp cd_rp ct_rp), sl_rp⟩)
    (c_rp : PySem.W.codeIn K cd_rp "Fill.__repr__" = true)
    (k_rp : PySem.W.keepIn K (.ref f_rp) = true)
    (a_pw : PySem.W.findIn K (.ref C) "word" = some (some (.ref p_pw)))
    (g_pw : PySem.W.specialIn K (.ref p_pw) "__get__" = some (some (.builtin "property.__get__")))
    (t_pw : PySem.W.takesIn K (.ref p_pw) = some true)
    (r_pw : PySem.W.recIn K p_pw "property" = some (.ref f_pw :: re_pw))
    (l_pw : K.lookup f_pw = some ⟨oc_pw, od_pw, .func (PySem.W.fnOf "word" "Fill.word" (defArgs sPW) (defBody sPW) (defScope sPW) .none kV_pw dc_pw pm_pw an_pw cd_pw ct_pw), sl_pw⟩)
    (c_pw : PySem.W.codeIn K cd_pw "Fill.word" = true)
    (k_pw : PySem.W.keepIn K (.ref f_pw) = true)
    (a_pe : PySem.W.findIn K (.ref C) "extent" = some (some (.ref p_pe)))
    (g_pe : PySem.W.specialIn K (.ref p_pe) "__get__" = some (some (.builtin "property.__get__")))
    (t_pe : PySem.W.takesIn K (.ref p_pe) = some true)
    (r_pe : PySem.W.recIn K p_pe "property" = some (.ref f_pe :: re_pe))
    (l_pe : K.lookup f_pe = some ⟨oc_pe, od_pe, .func (PySem.W.fnOf "extent" "Fill.extent" (defArgs sPE) (defBody sPE) (defScope sPE) .none kV_pe dc_pe pm_pe an_pe cd_pe ct_pe), sl_pe⟩)
    (c_pe : PySem.W.codeIn K cd_pe "Fill.extent" = true)
    (k_pe : PySem.W.keepIn K (.ref f_pe) = true)
    (a_pf : PySem.W.findIn K (.ref C) "is_free" = some (some (.ref p_pf)))
    (g_pf : PySem.W.specialIn K (.ref p_pf) "__get__" = some (some (.builtin "property.__get__")))
    (t_pf : PySem.W.takesIn K (.ref p_pf) = some true)
    (r_pf : PySem.W.recIn K p_pf "property" = some (.ref f_pf :: re_pf))
    (l_pf : K.lookup f_pf = some ⟨oc_pf, od_pf, .func (PySem.W.fnOf "is_free" "Fill.is_free" (defArgs sPF) (defBody sPF) (defScope sPF) .none kV_pf dc_pf pm_pf an_pf cd_pf ct_pf), sl_pf⟩)
    (c_pf : PySem.W.codeIn K cd_pf "Fill.is_free" = true)
    (k_pf : PySem.W.keepIn K (.ref f_pf) = true)
    (rd : PySem.W.readsIn K C (.type "type") = true)
    (ga : PySem.W.specialIn K (.ref C) "__getattribute__" = some (some (.builtin "type.__getattribute__")))
    (at_rd : PySem.W.findCls K (.ref C) (.type "type") "read" = some (.get (.builtin "staticmethod.__get__") (.ref p_rd) .none (.ref C)))
    (r_rd : PySem.W.recIn K p_rd "staticmethod" = some (.ref f_rd :: re_rd))
    (l_rd : K.lookup f_rd = some ⟨oc_rd, od_rd, .func (PySem.W.fnOf "read" "Fill.read" (defArgs sRead) (defBody sRead) (defScope sRead) .none kV_rd dc_rd pm_rd an_rd cd_rd ct_rd), sl_rd⟩)
    (c_rd : PySem.W.codeIn K cd_rd "Fill.read" = true)
    (k_rd : PySem.W.keepIn K (.ref f_rd) = true)
    (pg : PySem.W.plainGet K C Str.empty = true)
    (hd : PySem.W.hasDictIn K C = true)
    (po : PySem.W.plainOver K C = true)
    (sa : PySem.W.findIn K (.ref C) "__setattr__" = some (some (.builtin "object.__setattr__")))
    (mk : PySem.W.makesIn K C = true)
    (kc : PySem.W.keepIn K (.ref C) = true)
    (ca : PySem.W.findIn K (.ref C) "__class__" = some (some (.builtin "object.__class__")))
    (cn : PySem.W.specialIn K (.builtin "object.__class__") "__get__" = some (some (.builtin "getset_descriptor.__get__")))
    (ctk : PySem.W.takesIn K (.builtin "object.__class__") = some true)
    (cm : PySem.W.mroIn K C (.type "object") = some true)
    (nW : PySem.W.findIn K (.ref C) "_word" = some none)
    (nE : PySem.W.findIn K (.ref C) "_extent" = some none)
    (ic : PySem.W.isClsIn K C = true)
    (ty : PySem.W.typeIn K (.ref C) = some (.type "type"))
    (su_NoneType : PySem.W.subIn K (.type "NoneType") (.ref C) = some false)
    (su_tuple : PySem.W.subIn K (.type "tuple") (.ref C) = some false)
    (su_str : PySem.W.subIn K (.type "str") (.ref C) = some false)
    (su_int : PySem.W.subIn K (.type "int") (.ref C) = some false)
    (su_list : PySem.W.subIn K (.type "list") (.ref C) = some false)
    (a_FREE : PySem.W.nsIn K mainGlobals "FREE" = some (some u_FREE))
    (v_FREE : RelV (.str "free") u_FREE)
    (a_ZEROS : PySem.W.nsIn K mainGlobals "ZEROS" = some (some u_ZEROS))
    (v_ZEROS : RelV (.str "zeros") u_ZEROS)
    (a_SIGN : PySem.W.nsIn K mainGlobals "SIGN" = some (some u_SIGN))
    (v_SIGN : RelV (.str "sign") u_SIGN)
    (a_LEAST_EXTENT : PySem.W.nsIn K mainGlobals "LEAST_EXTENT" = some (some u_LEAST_EXTENT))
    (v_LEAST_EXTENT : RelV (.int 3) u_LEAST_EXTENT)
    (a_LEAST_WIDTH : PySem.W.nsIn K mainGlobals "LEAST_WIDTH" = some (some u_LEAST_WIDTH))
    (v_LEAST_WIDTH : RelV (.int 2) u_LEAST_WIDTH)
    (a_MOST_BITS : PySem.W.nsIn K mainGlobals "MOST_BITS" = some (some u_MOST_BITS))
    (v_MOST_BITS : RelV (.int 128) u_MOST_BITS)
    (b_abs : PySem.W.nsIn K mainGlobals "abs" = some none)
    (b_max : PySem.W.nsIn K mainGlobals "max" = some none)
    (b_min : PySem.W.nsIn K mainGlobals "min" = some none)
    (b_int : PySem.W.nsIn K mainGlobals "int" = some none)
    (b_len : PySem.W.nsIn K mainGlobals "len" = some none)
    (b_divmod : PySem.W.nsIn K mainGlobals "divmod" = some none)
    (b_range : PySem.W.nsIn K mainGlobals "range" = some none)
    (b_str : PySem.W.nsIn K mainGlobals "str" = some none)
    (b_repr : PySem.W.nsIn K mainGlobals "repr" = some none)
    (b_isinstance : PySem.W.nsIn K mainGlobals "isinstance" = some none)
    (b_all : PySem.W.nsIn K mainGlobals "all" = some none)
    (b_bool : PySem.W.nsIn K mainGlobals "bool" = some none) :
    ∃ fd : FuncData, (∀ (s : Shared) (v : Value), BindsTo s fd ⟨[v], []⟩ [("_law_script", v)]) ∧ ∀ base : Heap, K.In base → base.Ns mainGlobals mg → FnG l.prog w K mg base 9 fa fd ["_law_script"] (spLaw K) := by
  have e := hfa.symm.trans (PySem.W.mg_of X G a_law)
  cases e
  have cl : Cls K C := ⟨pg, hd, po, sa⟩
  have B : Bi mg := ⟨PySem.W.mg_none_of X G b_abs, PySem.W.mg_none_of X G b_max, PySem.W.mg_none_of X G b_min, PySem.W.mg_none_of X G b_int, PySem.W.mg_none_of X G b_len, PySem.W.mg_none_of X G b_divmod, PySem.W.mg_none_of X G b_range, PySem.W.mg_none_of X G b_str, PySem.W.mg_none_of X G b_repr, PySem.W.mg_none_of X G b_isinstance, PySem.W.mg_none_of X G b_all, PySem.W.mg_none_of X G b_bool⟩
  have T : Txt K mg C := ⟨B, ⟨cl, ca, cn, ctk, cm⟩, nW, nE, PySem.W.mg_of X G aC, ⟨_, PySem.W.mg_of X G a_FREE, v_FREE⟩, ⟨_, PySem.W.mg_of X G a_ZEROS, v_ZEROS⟩, ⟨_, PySem.W.mg_of X G a_SIGN, v_SIGN⟩, ⟨_, PySem.W.mg_of X G a_LEAST_EXTENT, v_LEAST_EXTENT⟩, ⟨_, PySem.W.mg_of X G a_LEAST_WIDTH, v_LEAST_WIDTH⟩, ⟨_, PySem.W.mg_of X G a_MOST_BITS, v_MOST_BITS⟩, fun T hT => by
    simp only [List.mem_cons, List.not_mem_nil, or_false] at hT
    rcases hT with rfl | rfl | rfl | rfl | rfl
    · exact kt_of ic ty su_NoneType
    · exact kt_of ic ty su_tuple
    · exact kt_of ic ty su_str
    · exact kt_of ic ty su_int
    · exact kt_of ic ty su_list⟩
  have F_btw := fun_mk (st := sBetw) l_btw c_btw k_btw
  have B_btw := F_btw.binds (ps := ["value", "least", "most"]) fun _ _ _ _ _ _ us hl => match us, hl with | [_, _, _], _ => rfl
  have F_wrd := fun_mk (st := sWord) l_wrd c_wrd k_wrd
  have B_wrd := F_wrd.binds (ps := ["value", "words"]) fun _ _ _ _ _ _ us hl => match us, hl with | [_, _], _ => rfl
  have F_pot := fun_mk (st := sPot) l_pot c_pot k_pot
  have B_pot := F_pot.binds (ps := ["_law_script", "_law_k"]) fun _ _ _ _ _ _ us hl => match us, hl with | [_, _], _ => rfl
  have F_drw := fun_mk (st := sDraw) l_drw c_drw k_drw
  have B_drw := F_drw.binds (ps := ["_law_pot_here", "_law_size"]) fun _ _ _ _ _ _ us hl => match us, hl with | [_, _], _ => rfl
  have F_pck := fun_mk (st := sPick) l_pck c_pck k_pck
  have B_pck := F_pck.binds (ps := ["_law_pot_here", "_law_some"]) fun _ _ _ _ _ _ us hl => match us, hl with | [_, _], _ => rfl
  have F_fil := fun_mk (st := sFill) l_fil c_fil k_fil
  have B_fil := F_fil.binds (ps := ["_law_pot_here", "_law_near"]) fun _ _ _ _ _ _ us hl => match us, hl with | [_, _], _ => rfl
  have F_mad := fun_mk (st := sMade) l_mad c_mad k_mad
  have B_mad := F_mad.binds (ps := ["_law_pot_here", "_law_told"]) fun _ _ _ _ _ _ us hl => match us, hl with | [_, _], _ => rfl
  have F_bit := fun_mk (st := sBits) l_bit c_bit k_bit
  have B_bit := F_bit.binds (ps := ["_law_told", "_law_least"]) fun _ _ _ _ _ _ us hl => match us, hl with | [_, _], _ => rfl
  have F_ctl := fun_mk (st := sCutL) l_ctl c_ctl k_ctl
  have B_ctl := F_ctl.binds (ps := ["_law_told", "_law_wide", "_law_room"]) fun _ _ _ _ _ _ us hl => match us, hl with | [_, _, _], _ => rfl
  have F_cvl := fun_mk (st := sCovL) l_cvl c_cvl k_cvl
  have B_cvl := F_cvl.binds (ps := ["_law_told", "_law_mate", "_law_least"]) fun _ _ _ _ _ _ us hl => match us, hl with | [_, _, _], _ => rfl
  have F_txt := fun_mk (st := sText) l_txt c_txt k_txt
  have B_txt := F_txt.binds (ps := ["_law_told"]) fun _ _ _ _ _ _ us hl => match us, hl with | [_], _ => rfl
  have F_shw := fun_mk (st := sShown) l_shw c_shw k_shw
  have B_shw := F_shw.binds (ps := ["_law_made_here", "_law_told"]) fun _ _ _ _ _ _ us hl => match us, hl with | [_, _], _ => rfl
  have F_ctr := fun_mk (st := sCutR) l_ctr c_ctr k_ctr
  have B_ctr := F_ctr.binds (ps := ["_law_pot_here", "_law_made_here", "_law_told"]) fun _ _ _ _ _ _ us hl => match us, hl with | [_, _, _], _ => rfl
  have F_par := fun_mk (st := sPairR) l_par c_par k_par
  have B_par := F_par.binds (ps := ["_law_pot_here", "_law_made_here", "_law_told", "_law_mate", "_law_mate_told"]) fun _ _ _ _ _ _ us hl => match us, hl with | [_, _, _, _, _], _ => rfl
  have F_unl := fun_mk (st := sUnl) l_unl c_unl k_unl
  have B_unl := F_unl.binds (ps := ["_law_made_here", "_law_told"]) fun _ _ _ _ _ _ us hl => match us, hl with | [_, _], _ => rfl
  have F_rgt := fun_mk (st := sRight) l_rgt c_rgt k_rgt
  have B_rgt := F_rgt.binds (ps := ["_law_pot_here"]) fun _ _ _ _ _ _ us hl => match us, hl with | [_], _ => rfl
  have F_law := fun_mk (st := sLaw) l_law c_law k_law
  have B_law := F_law.binds (ps := ["_law_script"]) fun _ _ _ _ _ _ us hl => match us, hl with | [_], _ => rfl
  have F_cut := fun_mk (st := sCut) l_cut c_cut k_cut
  have B_cut := F_cut.binds (ps := ["self", "width", "bits"]) fun _ _ _ _ _ _ us hl => match us, hl with | [_, _, _], _ => rfl
  have F_cov := fun_mk (st := sCov) l_cov c_cov k_cov
  have B_cov := F_cov.binds (ps := ["self", "other"]) fun _ _ _ _ _ _ us hl => match us, hl with | [_, _], _ => rfl
  have F_eq := fun_mk (st := sEq) l_eq c_eq k_eq
  have B_eq := F_eq.binds (ps := ["self", "other"]) fun _ _ _ _ _ _ us hl => match us, hl with | [_, _], _ => rfl
  have F_st := fun_mk (st := sStr) l_st c_st k_st
  have B_st := F_st.binds (ps := ["self"]) fun _ _ _ _ _ _ us hl => match us, hl with | [_], _ => rfl
  have F_rp := fun_mk (st := sRepr) l_rp c_rp k_rp
  have B_rp := F_rp.binds (ps := ["self"]) fun _ _ _ _ _ _ us hl => match us, hl with | [_], _ => rfl
  have F_pw := fun_mk (st := sPW) l_pw c_pw k_pw
  have B_pw := F_pw.binds (ps := ["self"]) fun _ _ _ _ _ _ us hl => match us, hl with | [_], _ => rfl
  have F_pe := fun_mk (st := sPE) l_pe c_pe k_pe
  have B_pe := F_pe.binds (ps := ["self"]) fun _ _ _ _ _ _ us hl => match us, hl with | [_], _ => rfl
  have F_pf := fun_mk (st := sPF) l_pf c_pf k_pf
  have B_pf := F_pf.binds (ps := ["self"]) fun _ _ _ _ _ _ us hl => match us, hl with | [_], _ => rfl
  have F_rd := fun_mk (st := sRead) l_rd c_rd k_rd
  have B_rd := F_rd.binds (ps := ["text"]) fun _ _ _ _ _ _ us hl => match us, hl with | [_], _ => rfl
  have FI : FunD K "__init__" "Fill.__init__" (defArgs sInit) (defBody sInit) (defScope sInit) [.str "free", .non] [] f_ini _ := ⟨⟨_, _, _, _, _, _, _, _, _, _, rfl, l_ini, c_ini, .inr ⟨by simp, T0, _, itT.toList, nT, rfl, tO, by simp, vT⟩, .inl rfl⟩, k_ini⟩
  have KCut := Fun.kbn F_cut (ps := ["self", "width", "bits"]) 1 ["bits", "width"] (fun us ws => us ++ ws.reverse) vals_apprev fun _ _ _ _ _ _ us ws h1 h2 => match us, ws, h1, h2 with | [_], [_, _], _, _ => rfl
  have KCov := Fun.kbn F_cov (ps := ["self", "other"]) 1 ["other"] (fun us ws => us ++ ws) vals_app fun _ _ _ _ _ _ us ws h1 h2 => match us, ws, h1, h2 with | [_], [_], _, _ => rfl
  have KRd := Fun.kbn F_rd (ps := ["text"]) 0 ["text"] (fun us ws => us ++ ws) vals_app fun _ _ _ _ _ _ us ws h1 h2 => match us, ws, h1, h2 with | [], [_], _, _ => rfl
  obtain ⟨ds0, v0, I0⟩ := FI.binds1 (ps := ["self", "word", "extent"]) 1 0 (by simp) rfl fun _ _ _ _ _ _ _ us its h1 h2 => match us, its, h1, h2 with | [_], [_, _], _, _ => ⟨_, rfl, rfl⟩
  obtain ⟨ds1, v1, I1⟩ := FI.binds1 (ps := ["self", "word", "extent"]) 2 1 (by simp) rfl fun _ _ _ _ _ _ _ us its h1 h2 => match us, its, h1, h2 with | [_, _], [_, _], _, _ => ⟨_, rfl, rfl⟩
  obtain ⟨ds2, v2, I2⟩ := FI.binds1 (ps := ["self", "word", "extent"]) 3 2 (by simp) rfl fun _ _ _ _ _ _ _ us its h1 h2 => match us, its, h1, h2 with | [_, _, _], [_, _], _, _ => ⟨_, rfl, rfl⟩
  obtain ⟨itK, IK⟩ := FI.kbindsD (ps := ["self", "word", "extent"]) 1 ["extent", "word"] (fun us _ ws => us ++ ws.reverse) (by simp) (fun r1 _ r2 => vals_apprev r1 r2) fun _ _ _ _ _ _ _ us its ws h1 h2 h3 => match us, its, ws, h1, h2, h3 with | [_], [_, _], [_, _], _, _, _ => ⟨_, rfl, rfl⟩
  refine ⟨PySem.W.fnOf "law" "law" (defArgs sLaw) (defBody sLaw) (defScope sLaw) .none kV_law dc_law pm_law an_law cd_law ct_law, fun s v => .of_eq rfl, fun base _ _ => ?_⟩
  have mk_ : Mk K C f_ini := ⟨mk, a_ini, i_ini, kc⟩
  have gC := PySem.W.mg_of X G aC
  have O_btw : FnOk l.prog w K mg base CX0 2 _ _ _ _ := ok_betw F_btw B
  have O_wrd : FnOk l.prog w K mg base CX0 1 _ _ _ _ := ok_word F_wrd B
  have O_ini : FnOk l.prog w K mg base CX0 3 _ _ _ _ := ok_init FI T O_btw k_btw B_btw (PySem.W.mg_of X G a_btw) O_wrd k_wrd B_wrd (PySem.W.mg_of X G a_wrd)
  have M0 : Mak l.prog w K mg base 3 "Fill" C [.str "free", .non] (spInit C) := ⟨_, _, _, _, O_ini, mk_, gC, I0, v0⟩
  have M1 : Mak l.prog w K mg base 3 "Fill" C [.non] (spInit C) := ⟨_, _, _, _, O_ini, mk_, gC, I1, v1⟩
  have M2 : Mak l.prog w K mg base 3 "Fill" C [] (spInit C) := ⟨_, _, _, _, O_ini, mk_, gC, I2, v2⟩
  have MKK : MakK l.prog w K mg base 3 "Fill" C ["extent", "word"] gEW (spInit C) := ⟨_, _, _, _, O_ini, mk_, gC, IK⟩
  have cbt : Cal l.prog w K mg base 2 "is_between" spBetw := ⟨_, _, _, O_btw, k_btw, B_btw, PySem.W.mg_of X G a_btw⟩
  have PO_pw : PropOf K C "word" p_pw f_pw := ⟨a_pw, g_pw, t_pw, ⟨_, r_pw⟩⟩
  have PO_pe : PropOf K C "extent" p_pe f_pe := ⟨a_pe, g_pe, t_pe, ⟨_, r_pe⟩⟩
  have PO_pf : PropOf K C "is_free" p_pf f_pf := ⟨a_pf, g_pf, t_pf, ⟨_, r_pf⟩⟩
  have cW : CalP l.prog w K mg base 1 C "word" (spGet C fun t => .str t.w) := ⟨_, _, _, _, ok_pw F_pw T, cl, PO_pw, B_pw⟩
  have cE : CalP l.prog w K mg base 1 C "extent" (spGet C FT.e) := ⟨_, _, _, _, ok_pe F_pe T, cl, PO_pe, B_pe⟩
  have cF : CalP l.prog w K mg base 1 C "is_free" (spGet C fun t => .bl (decide (t = .free))) := ⟨_, _, _, _, ok_pf F_pf T, cl, PO_pf, B_pf⟩
  have nil_ : Vals ([] : List V) [] := .nil
  have R_eq : CalS l.prog w K mg base 1 C "__eq__" (spEqF K C) := ⟨_, ((ok_eq F_eq T).raw B_eq nil_).imp fun vs H Q E h => by rw [List.append_nil]; exact h, a_eq, i_eq⟩
  have R_st : CalS l.prog w K mg base 1 C "__str__" (spShow C strF) := ⟨_, ((ok_str F_st T).raw B_st nil_).imp fun vs H Q E h => by rw [List.append_nil]; exact h, a_st, i_st⟩
  have R_rp : CalS l.prog w K mg base 1 C "__repr__" (spShow C reprF) := ⟨_, ((ok_repr F_rp T).raw B_rp nil_).imp fun vs H Q E h => by rw [List.append_nil]; exact h, a_rp, i_rp⟩
  have O_rd : FnOk l.prog w K mg base CX0 5 _ _ _ _ := ok_read F_rd T M0 M2
  have O_cut : FnOk l.prog w K mg base CX0 5 _ _ _ _ := ok_cutF F_cut T cbt M0 M2
  have O_cov : FnOk l.prog w K mg base CX0 3 _ _ _ _ := ok_covF F_cov T cF cW cE
  have sm : SMet K C (.type "type") "read" p_rd f_rd := ⟨rd, ga, at_rd, ⟨_, r_rd⟩, k_rd⟩
  have M : Mem l.prog w K mg base C := ⟨T, cW, cE, R_eq, R_st, R_rp, ⟨_, _, _, _, _, O_rd, sm, B_rd⟩, ⟨_, _, _, _, _, _, O_rd, sm, KRd⟩, ⟨_, _, _, O_cut, cl, ⟨a_cut, i_cut, k_cut⟩, B_cut⟩, ⟨_, _, _, _, O_cut, cl, ⟨a_cut, i_cut, k_cut⟩, KCut⟩, ⟨_, _, _, O_cov, cl, ⟨a_cov, i_cov, k_cov⟩, B_cov⟩, ⟨_, _, _, _, O_cov, cl, ⟨a_cov, i_cov, k_cov⟩, KCov⟩⟩
  have cdr : Cal l.prog w K mg base 1 "_law_draw" spDraw := ⟨_, _, _, ok_draw F_drw B, k_drw, B_drw, PySem.W.mg_of X G a_drw⟩
  have cpk : Cal l.prog w K mg base 2 "_law_pick" (spPick1 K) := ⟨_, _, _, ok_pick F_pck B cdr, k_pck, B_pck, PySem.W.mg_of X G a_pck⟩
  have cfi : Cal l.prog w K mg base 3 "_law_fill" spFill := ⟨_, _, _, ok_fill F_fil B cdr cpk, k_fil, B_fil, PySem.W.mg_of X G a_fil⟩
  have cma : Cal l.prog w K mg base 5 "_law_made" (spMade C) := ⟨_, _, _, ok_made F_mad T cdr cpk M0 M1 M2 MKK, k_mad, B_mad, PySem.W.mg_of X G a_mad⟩
  have cbi : Cal l.prog w K mg base 1 "_law_bits" spBits := ⟨_, _, _, ok_bits F_bit B, k_bit, B_bit, PySem.W.mg_of X G a_bit⟩
  have ccl : Cal l.prog w K mg base 2 "_law_cut" spCutL := ⟨_, _, _, ok_cutL F_ctl cbi, k_ctl, B_ctl, PySem.W.mg_of X G a_ctl⟩
  have ccv : Cal l.prog w K mg base 2 "_law_covers" spCovL := ⟨_, _, _, ok_covL F_cvl B cbi, k_cvl, B_cvl, PySem.W.mg_of X G a_cvl⟩
  have ctx : Cal l.prog w K mg base 1 "_law_text" spText := ⟨_, _, _, ok_text F_txt B, k_txt, B_txt, PySem.W.mg_of X G a_txt⟩
  have csh : Cal l.prog w K mg base 6 "_law_shown_right" (spShown C) := ⟨_, _, _, ok_shown F_shw M ctx, k_shw, B_shw, PySem.W.mg_of X G a_shw⟩
  have L : Hlp l.prog w K mg base C := ⟨M, cdr, cpk, cfi, cma, ccl, ccv, ctx, csh⟩
  have cct : Cal l.prog w K mg base 7 "_law_cut_right" (spRight C) := ⟨_, _, _, ok_cutR F_ctr L, k_ctr, B_ctr, PySem.W.mg_of X G a_ctr⟩
  have cpa : CalG l.prog w K mg base 7 "_law_pair_right" (spPair C) := ⟨_, _, _, ok_pair F_par L, k_par, B_par, PySem.W.mg_of X G a_par⟩
  have cun : Cal l.prog w K mg base 4 "_law_unlike_right" (spShown C) := ⟨_, _, _, ok_unl F_unl L, k_unl, B_unl, PySem.W.mg_of X G a_unl⟩
  have crg : CalG l.prog w K mg base 8 "_law_right" spR := ⟨_, _, _, ok_right F_rgt L cct cpa cun, k_rgt, B_rgt, PySem.W.mg_of X G a_rgt⟩
  have cpo : Cal l.prog w K mg base 1 "_law_pot" (spPot K) := ⟨_, _, _, ok_pot F_pot B, k_pot, B_pot, PySem.W.mg_of X G a_pot⟩
  exact ok_law F_law B cpo crg
end K12
set_option Elab.async false
set_option linter.all false
open PySem PySem.W PyProof.Rows L2
set_option maxRecDepth 100000 in
set_option maxHeartbeats 0 in
theorem PySem.Challenge.cw_unlikecalls_k12_whole_fills_cut_and_cove_holds : PySem.Challenge.rw_unlikecalls_k12_whole_fills_cut_and_cove.Holds := by
  w_on; o_law; k_head; (case hw => w_witness2)
  k_fill
  refine UL.walkG (l := PySem.Challenge.rw_unlikecalls_k12_whole_fills_cut_and_cove) (n := 63) (k := 9) (x := "_law_script") (sp := fun w => K12.spLaw _) rfl (by decide) rfl ⟨rfl, by decide, by decide⟩ (fun w h Y => PySem.W.kIn_of Y) ?F (fun _ _ a ns hl _ hS => ⟨a, ns, rfl, hS, hl, fun _ => rfl⟩)
  case F =>
    intro w mg fa h KX G hmg
    refine' K12.all_mk KX G hmg ?aC ?a_btw ?l_btw ?c_btw ?k_btw ?a_wrd ?l_wrd ?c_wrd ?k_wrd ?a_pot ?l_pot ?c_pot ?k_pot ?a_drw ?l_drw ?c_drw ?k_drw ?a_pck ?l_pck ?c_pck ?k_pck ?a_fil ?l_fil ?c_fil ?k_fil ?a_mad ?l_mad ?c_mad ?k_mad ?a_bit ?l_bit ?c_bit ?k_bit ?a_ctl ?l_ctl ?c_ctl ?k_ctl ?a_cvl ?l_cvl ?c_cvl ?k_cvl ?a_txt ?l_txt ?c_txt ?k_txt ?a_shw ?l_shw ?c_shw ?k_shw ?a_ctr ?l_ctr ?c_ctr ?k_ctr ?a_par ?l_par ?c_par ?k_par ?a_unl ?l_unl ?c_unl ?k_unl ?a_rgt ?l_rgt ?c_rgt ?k_rgt ?a_law ?l_law ?c_law ?k_law ?a_ini ?i_ini ?l_ini ?c_ini ?k_ini ?tO ?vT ?a_cut ?i_cut ?l_cut ?c_cut ?k_cut ?a_cov ?i_cov ?l_cov ?c_cov ?k_cov ?a_eq ?i_eq ?l_eq ?c_eq ?k_eq ?a_st ?i_st ?l_st ?c_st ?k_st ?a_rp ?i_rp ?l_rp ?c_rp ?k_rp ?a_pw ?g_pw ?t_pw ?r_pw ?l_pw ?c_pw ?k_pw ?a_pe ?g_pe ?t_pe ?r_pe ?l_pe ?c_pe ?k_pe ?a_pf ?g_pf ?t_pf ?r_pf ?l_pf ?c_pf ?k_pf ?rd ?ga ?at_rd ?r_rd ?l_rd ?c_rd ?k_rd ?pg ?hd ?po ?sa ?mk ?kc ?ca ?cn ?ctk ?cm ?nW ?nE ?ic ?ty ?su_NoneType ?su_tuple ?su_str ?su_int ?su_list ?a_FREE ?v_FREE ?a_ZEROS ?v_ZEROS ?a_SIGN ?v_SIGN ?a_LEAST_EXTENT ?v_LEAST_EXTENT ?a_LEAST_WIDTH ?v_LEAST_WIDTH ?a_MOST_BITS ?v_MOST_BITS ?b_abs ?b_max ?b_min ?b_int ?b_len ?b_divmod ?b_range ?b_str ?b_repr ?b_isinstance ?b_all ?b_bool
    (case aC => k_is)
    (case a_btw => k_is)
    (case l_btw => k_is)
    (case c_btw => k_is)
    (case k_btw => k_is)
    (case a_wrd => k_is)
    (case l_wrd => k_is)
    (case c_wrd => k_is)
    (case k_wrd => k_is)
    (case a_pot => k_is)
    (case l_pot => k_is)
    (case c_pot => k_is)
    (case k_pot => k_is)
    (case a_drw => k_is)
    (case l_drw => k_is)
    (case c_drw => k_is)
    (case k_drw => k_is)
    (case a_pck => k_is)
    (case l_pck => k_is)
    (case c_pck => k_is)
    (case k_pck => k_is)
    (case a_fil => k_is)
    (case l_fil => k_is)
    (case c_fil => k_is)
    (case k_fil => k_is)
    (case a_mad => k_is)
    (case l_mad => k_is)
    (case c_mad => k_is)
    (case k_mad => k_is)
    (case a_bit => k_is)
    (case l_bit => k_is)
    (case c_bit => k_is)
    (case k_bit => k_is)
    (case a_ctl => k_is)
    (case l_ctl => k_is)
    (case c_ctl => k_is)
    (case k_ctl => k_is)
    (case a_cvl => k_is)
    (case l_cvl => k_is)
    (case c_cvl => k_is)
    (case k_cvl => k_is)
    (case a_txt => k_is)
    (case l_txt => k_is)
    (case c_txt => k_is)
    (case k_txt => k_is)
    (case a_shw => k_is)
    (case l_shw => k_is)
    (case c_shw => k_is)
    (case k_shw => k_is)
    (case a_ctr => k_is)
    (case l_ctr => k_is)
    (case c_ctr => k_is)
    (case k_ctr => k_is)
    (case a_par => k_is)
    (case l_par => k_is)
    (case c_par => k_is)
    (case k_par => k_is)
    (case a_unl => k_is)
    (case l_unl => k_is)
    (case c_unl => k_is)
    (case k_unl => k_is)
    (case a_rgt => k_is)
    (case l_rgt => k_is)
    (case c_rgt => k_is)
    (case k_rgt => k_is)
    (case a_law => k_is)
    (case l_law => k_is)
    (case c_law => k_is)
    (case k_law => k_is)
    (case a_ini => k_is)
    (case i_ini => k_is)
    (case l_ini => k_is)
    (case c_ini => k_is)
    (case k_ini => k_is)
    (case tO => k_is)
    (case vT => exact .cons ⟨_, rfl⟩ (.cons rfl .nil))
    (case a_cut => k_is)
    (case i_cut => k_is)
    (case l_cut => k_is)
    (case c_cut => k_is)
    (case k_cut => k_is)
    (case a_cov => k_is)
    (case i_cov => k_is)
    (case l_cov => k_is)
    (case c_cov => k_is)
    (case k_cov => k_is)
    (case a_eq => k_is)
    (case i_eq => k_is)
    (case l_eq => k_is)
    (case c_eq => k_is)
    (case k_eq => k_is)
    (case a_st => k_is)
    (case i_st => k_is)
    (case l_st => k_is)
    (case c_st => k_is)
    (case k_st => k_is)
    (case a_rp => k_is)
    (case i_rp => k_is)
    (case l_rp => k_is)
    (case c_rp => k_is)
    (case k_rp => k_is)
    (case a_pw => k_is)
    (case g_pw => k_is)
    (case t_pw => k_is)
    (case r_pw => k_is)
    (case l_pw => k_is)
    (case c_pw => k_is)
    (case k_pw => k_is)
    (case a_pe => k_is)
    (case g_pe => k_is)
    (case t_pe => k_is)
    (case r_pe => k_is)
    (case l_pe => k_is)
    (case c_pe => k_is)
    (case k_pe => k_is)
    (case a_pf => k_is)
    (case g_pf => k_is)
    (case t_pf => k_is)
    (case r_pf => k_is)
    (case l_pf => k_is)
    (case c_pf => k_is)
    (case k_pf => k_is)
    (case rd => k_is)
    (case ga => k_is)
    (case at_rd => k_is)
    (case r_rd => k_is)
    (case l_rd => k_is)
    (case c_rd => k_is)
    (case k_rd => k_is)
    (case pg => k_is)
    (case hd => k_is)
    (case po => k_is)
    (case sa => k_is)
    (case mk => k_is)
    (case kc => k_is)
    (case ca => k_is)
    (case cn => k_is)
    (case ctk => k_is)
    (case cm => k_is)
    (case nW => k_is)
    (case nE => k_is)
    (case ic => k_is)
    (case ty => k_is)
    (case su_NoneType => k_is)
    (case su_tuple => k_is)
    (case su_str => k_is)
    (case su_int => k_is)
    (case su_list => k_is)
    (case a_FREE => k_is)
    (case v_FREE => exact ⟨_, rfl⟩)
    (case a_ZEROS => k_is)
    (case v_ZEROS => exact ⟨_, rfl⟩)
    (case a_SIGN => k_is)
    (case v_SIGN => exact ⟨_, rfl⟩)
    (case a_LEAST_EXTENT => k_is)
    (case v_LEAST_EXTENT => exact ⟨_, rfl⟩)
    (case a_LEAST_WIDTH => k_is)
    (case v_LEAST_WIDTH => exact ⟨_, rfl⟩)
    (case a_MOST_BITS => k_is)
    (case v_MOST_BITS => exact ⟨_, rfl⟩)
    (case b_abs => k_is)
    (case b_max => k_is)
    (case b_min => k_is)
    (case b_int => k_is)
    (case b_len => k_is)
    (case b_divmod => k_is)
    (case b_range => k_is)
    (case b_str => k_is)
    (case b_repr => k_is)
    (case b_isinstance => k_is)
    (case b_all => k_is)
    (case b_bool => k_is)
#print axioms PySem.Challenge.cw_unlikecalls_k12_whole_fills_cut_and_cove_holds
