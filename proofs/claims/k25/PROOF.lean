import PyProof.Rows.All
import Wide.All
import OpenK.AllK
import Wide.FinOn
import HandS.ForMost
import HandS.IsInst
import HandS.Deep
import HandS.FStr
import HandS.Defaults
import HandS.MakeKw
import HandS.MakeKwOnly
import HandS.Property
import HandS.Flow
import HandS.Style
import HandS.TupLe
import HandS.WideBits
import HandS.RaiseMore
import HandS.SlotsOwn
import HandS.ClsMeth
import HandS.More
import HandS.Iter
import HandS.Walk
import KE.GoesMore
import KE.GoesEnum
import KE.GoesNew
import HandS.Star
import HandS.OwnEq
import PyProof.FitsReplace
import PyProof.ReprLoop
import HandS.Text
import HandS.TupAny
import KE.KOpsOwn
import KE.LtSeq
import KE.Datum
import HandS.ExcInit
import HandS.ExcField
import HandS.TryMany
import KE.KExcInit
import HandS.Lambda
import HandS.TupMul
import HandS.Strs
import OpenK.KMeth
import HandS.Dict
import PyProof.ReprRoads
import HandS.EndTab
import HandS.ExcIs
import HandS.WordsExc
import PyProof.NeKinds
import PyProof.StrLawsRepr
import PySem.Challenge.RW_unlikecalls_k25_books_refused
import HandS.TryOnly
import KE.KNestM
set_option Elab.async false
set_option linter.all false
set_option maxRecDepth 100000
set_option maxHeartbeats 4000000
namespace UL
open PySem L2
/-! what every law of this document draws from: a list of two ints -/
/-- all that is tracked stays, but the object at p -/
def Stay (p : Addr) (H H' : Hp) : Prop := ∀ b o, b ≠ p → H b = some o → H' b = some o
theorem Stay.refl (p : Addr) (H : Hp) : Stay p H H := fun _ _ _ h => h
theorem Stay.trans {p : Addr} {H H1 H2 : Hp} (a : Stay p H H1) (b : Stay p H1 H2) : Stay p H H2 := fun c o n h => b c o n (a c o n h)
theorem Same.stay {H H' : Hp} (s : L2.Same H H') (p : Addr) : Stay p H H' := fun b o _ h => s b o h
theorem same_new {H : Hp} {p : Addr} {o : HO} (h : H p = none) : L2.Same H (upd H p o) := fun b u e => by rw [upd_ne (ne_of_none e h)]; exact e
/-- the pot: what is left of the digits, and the mixed number -/
def Pot (H : Hp) (p : Addr) : Prop := ∃ a b : Int, H p = some (.lst [.int a, .int b]) ∧ 0 ≤ b ∧ b < 4294967296
theorem Pot.same {H H' : Hp} {p : Addr} (h : Pot H p) (s : L2.Same H H') : Pot H' p := by
  obtain ⟨a, b, e, h1, h2⟩ := h
  exact ⟨a, b, s _ _ e, h1, h2⟩
theorem stay_upd {H : Hp} {p : Addr} {o : HO} : Stay p H (upd H p o) := fun b u n e => by rw [upd_ne n]; exact e
/-- _law_draw(pot, n): an int from 0 to n - 1 -/
def spDraw : Sp := fun vs H Q _ => ∃ (p : Addr) (n : Int), vs = [.ref p, .int n] ∧ Pot H p ∧ 0 < n ∧ n < 1073741824 ∧
  ∀ (d : Int) (H' : Hp), 0 ≤ d → d < n → Pot H' p → Stay p H H' → Q (.int d) H'
/-- _law_pick(pot, some): one of them -/
def spPick (K : PySem.W.Frag) : Sp := fun vs H Q _ => ∃ (p l : Addr) (xs : List V), vs = [.ref p, .ref l] ∧ Pot H p ∧ SqL K H l xs ∧ xs ≠ [] ∧ xs.length < 1073741824 ∧
  ∀ (i : Nat) (v : V) (H' : Hp), xs[i]? = some v → Pot H' p → Stay p H H' → Q v H'
end UL
set_option Elab.async false
set_option linter.all false
set_option maxRecDepth 100000
set_option maxHeartbeats 4000000
namespace UL
open PySem PySem.Spec PyProof.Rows L2
/-! ### instances of the text's own classes under ==, str, repr -/
section
variable {X : Cx} {CX : CXT} {C g : Addr} {n : Nat} {sp : Sp} {E : XK}
/-- what is asked of an instance's class for isinstance -/
structure CIsi (K : PySem.W.Frag) (C : Addr) : Prop where
  cl : Cls K C
  ca : PySem.W.findIn K (.ref C) "__class__" = some (some (.builtin "object.__class__"))
  cn : PySem.W.specialIn K (.builtin "object.__class__") "__get__" = some (some (.builtin "getset_descriptor.__get__"))
  ct : PySem.W.takesIn K (.builtin "object.__class__") = some true
  cm : PySem.W.mroIn K C (.type "object") = some true
theorem CIsi.ty {K : PySem.W.Frag} {C a dx : Addr} {H : Hp} {fs : List (Str × V)} (c : CIsi K C) (h : H a = some (.ins C dx fs)) : TyX K H (.ref a) (.ref C) :=
  .base (.ins h c.cl c.ca c.cn c.ct c.cm)
/-- x == y by the def at g, x an instance of the class at C, y anything whose type is known -/
def rEqI (K : PySem.W.Frag) (C : Addr) (sp : Sp) (E : XK) : R2 := fun x y H Q => ∃ (a dx : Addr) (fs : List (Str × V)) (t : Value), x = .ref a ∧ H a = some (.ins C dx fs) ∧ TyX K H y t ∧ PySem.W.notFirst K C t = true ∧ sp [x, y] H Q E
theorem op_eqI (hs : PySem.W.findIn X.K (.ref C) "__eq__" = some (some (.ref g))) (hf : PySem.W.isFn X.K (.ref g) = true) (F : FnR X.prog X.w X.K X.mg X.base CX n g sp) (hr : Room n X.A) (hx : Passes CX X E) :
    OpR X (compareOp .Eq) (rEqI X.K C sp E) := by
  intro pins s σ H x y v u Q I rx ry h
  obtain ⟨a, dx, fs, t, rfl, ha, ty, hn, q⟩ := h
  cases (show v = Value.ref a from rx)
  obtain ⟨mA, O, _⟩ := ins_get I.hok ha
  obtain ⟨od, J, _⟩ := O.look
  obtain ⟨m, hF⟩ := I.fr
  obtain ⟨Pk, Z, pk, _⟩ := kit_of I ry ty
  show wpAny _ _ (richCompare .Eq (.ref a) u) _ _ _
  refine PySem.W.cmp_K (op := .Eq) hr.units0 hF I.ok.mod.kin J (Z.ty _ _ I.kIn pk) hn hs hf ?_
  refine wpAny_mono (wpAny_call (run_fnR (us := [.ref a, u]) (vs := [.ref a, y]) F hr hx I (.cons rfl (.cons ry .nil)) q)) (fun r s' z => ?_) fun _ _ e => e
  obtain ⟨z', H', I', rz, qz⟩ := z
  exact SlX.cmpback rz ⟨z', H', I', rz, qz⟩
/-- repr(x), str(x) by the def at g: it hands back a text -/
def rShowI (C : Addr) (sp : Sp) (E : XK) : List V → Hp → VK → Prop := fun xs H Q => ∃ (a dx : Addr) (fs : List (Str × V)), xs = [.ref a] ∧ H a = some (.ins C dx fs) ∧ sp [.ref a] H (fun z H' => ∃ y, z = .str y ∧ Q z H') E
theorem call_reprI (hs : PySem.W.findIn X.K (.ref C) "__repr__" = some (some (.ref g))) (hf : PySem.W.isFn X.K (.ref g) = true) (F : FnR X.prog X.w X.K X.mg X.base CX n g sp) (hr : Room (n + 1) X.A) (hx : Passes CX X E) :
    CallR X (.builtin "repr") (rShowI C sp E) := by
  intro pins s σ H xs us Q I r h
  obtain ⟨a, dx, fs, rfl, ha, q⟩ := h
  obtain ⟨u, rfl, ru⟩ := vals1 r
  cases (show u = Value.ref a from ru)
  obtain ⟨mA, O, _⟩ := ins_get I.hok ha
  obtain ⟨od, J, _⟩ := O.look
  obtain ⟨m, hF⟩ := I.fr
  refine PySem.W.repr_K hr.in1.units0 hF I.ok.mod.kin J hs hf (wpAny_mono (wpAny_call (SlX.run_at (us := [.ref a]) (ws := [.ref a]) F hr.in1 I.env0.in1 hx I (.cons rfl .nil) q)) (fun w s' z => ?_) fun _ _ e => e)
  obtain ⟨z', H', I', rz, y, ey, qz⟩ := z
  subst ey
  obtain ⟨t, rfl⟩ := (show ∃ t, w = Value.str y t from rz)
  exact ⟨.str y, H', I', ⟨t, rfl⟩, qz⟩
theorem call_strI (hs : PySem.W.findIn X.K (.ref C) "__str__" = some (some (.ref g))) (hf : PySem.W.isFn X.K (.ref g) = true) (F : FnR X.prog X.w X.K X.mg X.base CX n g sp) (hr : Room (n + 2) X.A) (hx : Passes CX X E) :
    CallR X (.type "str") (rShowI C sp E) := by
  intro pins s σ H xs us Q I r h
  obtain ⟨a, dx, fs, rfl, ha, q⟩ := h
  obtain ⟨u, rfl, ru⟩ := vals1 r
  cases (show u = Value.ref a from ru)
  obtain ⟨mA, O, _⟩ := ins_get I.hok ha
  obtain ⟨od, J, _⟩ := O.look
  have hr2 : Room n X.A.in1.in1 := (show Room (n + 1) X.A.in1 from Room.in1 hr).in1
  refine PySem.W.kso_call hr2.units0 I.kIn J hs hf (wpAny_mono (wpAny_call (SlX.run_at (us := [.ref a]) (ws := [.ref a]) F hr2 I.env0.in1.in1 hx I (.cons rfl .nil) q)) (fun w s' z => ?_) fun _ _ e => e)
  obtain ⟨z', H', I', rz, y, ey, qz⟩ := z
  subst ey
  obtain ⟨t, rfl⟩ := (show ∃ t, w = Value.str y t from rz)
  exact ⟨.str y, H', I', ⟨t, rfl⟩, qz⟩
end
/-- a name of the module that holds v -/
theorem pe_gl {X : Cx} {x : Str} {v : V} {pos : Pos} (hg : Gl X x) (h : ∃ u, X.mg x = some u ∧ RelV v u) (hd : (x == ("__debug__" : Str)) = false := by decide) : PE X (.Name x pos) (tC v) :=
  let ⟨_, hm, r⟩ := h
  pe_glob hg hm r hd
/-! ### a static method, called by its class's name -/
/-- C.m is the def at g, a static method whose record stands at p -/
structure SMet (K : PySem.W.Frag) (C : Addr) (mc : Value) (m : Str) (p g : Addr) : Prop where
  rd : PySem.W.readsIn K C mc = true
  ga : PySem.W.specialIn K (.ref C) "__getattribute__" = some (some (.builtin "type.__getattribute__"))
  at_ : PySem.W.findCls K (.ref C) mc m = some (.get (.builtin "staticmethod.__get__") (.ref p) .none (.ref C))
  rc : ∃ rest, PySem.W.recIn K p "staticmethod" = some (.ref g :: rest)
  kp : PySem.W.keepIn K (.ref g) = true
section
variable {X : Cx} {CX : CXT} {C p g : Addr} {mc : Value} {k n : Nat} {fd : FuncData} {ps ks : List Str} {sp : Sp} {dvs : List V} {ds : List Value} {E : XK} {o e : Expr} {es : List Expr} {kws : List Keyword} {m : Str} {pos apos : Pos} {ta : TE} {t tk : TA}
  {gg : List Value → List Value → List Value} {gV : List V → List V → List V}
def tSMeth (C : Addr) (sp : Sp) (dvs : List V) (E : XK) (ta : TE) (t : TA) : TE := fun σ H Q => ta σ H fun x H1 => x = .ref C ∧ t σ H1 fun vs H2 => sp (vs ++ dvs) H2 Q E
theorem getsm_ok {pins : List (Addr × Obj)} {σ : L2.St} {H : Hp} {s : Shared} {A : Around} {E' : Value → Shared → Prop} {pl : Sem Bool} {Q : Value × List Value → Shared → Prop} (I : Inv X pins σ H s) (c : SMet X.K C mc m p g)
    (h : ∀ s', Inv X pins σ H s' → Q (.ref g, []) s') : wpAny (model X.prog X.w) A (getMethod (.ref C) m pl) Q E' s := by
  obtain ⟨rest, hp⟩ := c.rc
  refine PySem.W.method_cls I.kIn c.ga (PySem.W.cls_bind I.kIn c.rd c.at_ ?_)
  exact wpAny_call (PySem.W.sm_get (s := { s with toks := s.toks + 1 }) I.kIn hp (PySem.W.handed_on rfl (h _ (I.tok _))))
theorem pe_smeth {pl : Sem Bool} (he : PE X o ta) (c : SMet X.K C mc m p g) (F : FnOk X.prog X.w X.K X.mg X.base CX k g fd ps sp) (hr : Room k X.A) (hb : Binds X.K fd ps ds) (hd : Vals dvs ds) (hx : Passes CX X E) (ha : PA X (e :: es) t)
    (hst : starEach (e :: es) X.env = (false, eval e X.env) :: starEach es X.env := by rfl) (hpl : (backTo pos (starEach es X.env)).any (·.1) = false := by rfl)
    (ht : eval (.Call (.Attribute o m apos) (e :: es) [] pos) X.env = (do
      let ov ← eval o X.env
      standAt apos.atName
      let (fv, fi) ← holding [ov] (getMethod ov m pl)
      callWith pos fv fi (backTo pos (starEach (e :: es) X.env)) (backToKw pos (keywordEach [] X.env))) := by rfl) :
    PE X (.Call (.Attribute o m apos) (e :: es) [] pos) (tSMeth C sp dvs E ta t) := by
  refine ⟨fun pins s σ H Q I h => ?_⟩
  refine PySem.W.methodCall_KW (pl := pl) (thn (he.run pins s σ H _ I h) fun u s1 ⟨x, H1, I1, rx, ex, q⟩ => ?_) ht
  subst ex
  obtain rfl : u = Value.ref C := rx
  refine getsm_ok I1 c fun s2 I2 => ?_
  refine PySem.W.callWith_K (first := []) (h₀ := X.base) I.ok.mod.kin c.kp (thn (ha.run pos pins s2 σ H1 _ I2 q) fun us s3 ⟨vs, H2, I3, r, q2⟩ => ⟨I3.kIn, ?_⟩) hst hpl
  exact run_fn F hr hb hd hx I3 r q2
/-- C.m(k = v, ..): keywords alone -/
def tSMethK (C : Addr) (m : Nat) (sp : Sp) (gV : List V → List V → List V) (E : XK) (ta : TE) (tk : TA) : TE := fun σ H Q => ta σ H fun x H1 => x = .ref C ∧ tk σ H1 fun zs H2 => zs.length = m ∧ sp (gV [] zs) H2 Q E
theorem pe_smethK {pl : Sem Bool} (he : PE X o ta) (c : SMet X.K C mc m p g) (F : FnOk X.prog X.w X.K X.mg X.base CX k g fd ps sp) (hr : Room k X.A) (hb : KBn X.K fd ps 0 ks gg gV) (hx : Passes CX X E) (hkw : PK X kws tk)
    (hall : (backToKw pos (keywordEach kws X.env)).all (·.1.isSome) = true := by rfl) (hks : (backToKw pos (keywordEach kws X.env)).filterMap (·.1) = ks := by rfl)
    (hpl : ((backTo pos (starEach [] X.env)).any (·.1) || (backToKw pos (keywordEach kws X.env)).any (·.1.isNone)) = false := by rfl)
    (ht : eval (.Call (.Attribute o m apos) [] kws pos) X.env = (do
      let ov ← eval o X.env
      standAt apos.atName
      let (fv, fi) ← holding [ov] (getMethod ov m pl)
      callWith pos fv fi (backTo pos (starEach [] X.env)) (backToKw pos (keywordEach kws X.env))) := by rfl) :
    PE X (.Call (.Attribute o m apos) [] kws pos) (tSMethK C ks.length sp gV E ta tk) := by
  refine ⟨fun pins s σ H Q I h => ?_⟩
  refine PySem.W.methodCall_KW (pl := pl) (thn (he.run pins s σ H _ I h) fun u s1 ⟨x, H1, I1, rx, ex, q⟩ => ?_) ht
  subst ex
  obtain rfl : u = Value.ref C := rx
  refine getsm_ok I1 c fun s2 I2 => ?_
  refine PySem.W.callWith_KW0 (h₀ := X.base) I.ok.mod.kin c.kp hall ?_ hpl
  refine thn (hkw.run pos pins s2 σ H1 _ I2 q) fun ws s3 ⟨zs, H2, I3, rz, l2, q2⟩ => ⟨I3.kIn, ?_⟩
  rw [hks]
  exact run_fnN (us := []) (vs := []) F hr hb hx I3 .nil rz rfl l2 q2
end
end UL
set_option Elab.async false
set_option linter.all false
set_option maxRecDepth 100000
set_option maxHeartbeats 4000000
namespace UL
open PySem PySem.Spec PyProof.Rows L2
/-! ### promises that are kept where no repr is under way: defs that say repr of a list -/
structure FnG (P : Program) (w : World) (K : PySem.W.Frag) (mg : Str → Option Value) (base : Heap) (k : Nat) (f : Addr) (fd : FuncData) (ps : List Str) (sp : Sp) : Prop where
  len : ∀ vs H Q E, sp vs H Q E → vs.length = ps.length
  run : ∀ (A : Around) (outer : List Env) (s : Shared) (H : Hp) (args : Args) (us : List Value) (vs : List V) (Q : VK) (E : XK), A.guards = some [] → Room k A → Env0 P w K mg base A outer s H → BindsTo s fd args (ps.zip us) →
    Vals vs us → sp vs H Q E → codeAny (model P w) A (.call (.ref f) args) (CR CX0 outer P w H s Q E) s
section
variable {P : Program} {w : World} {K : PySem.W.Frag} {mg : Str → Option Value} {base : Heap}
theorem FnG.ofOk {k : Nat} {f : Addr} {fd : FuncData} {ps : List Str} {sp : Sp} (F : FnOk P w K mg base CX0 k f fd ps sp) : FnG P w K mg base k f fd ps sp :=
  ⟨F.len, fun A outer s H args us vs Q E _ => F.run A outer s H args us vs Q E⟩
theorem FnG.mk' {x qual : Str} {st : Stmt} {f : Addr} {fd : FuncData} {N ps : List Str} {k : Nat} {sp : Sp} (F : Fun K x qual st f fd) (S : FnScope N ps (defScope st)) (len : ∀ vs H Q E, sp vs H Q E → vs.length = ps.length)
    (go : ∀ (cdv : Value) (A : Around) (outer : List Env) (s : Shared) (H : Hp) (vs : List V) (Q : VK) (E : XK), A.guards = some [] → Room k (A.deeper (envOfC qual (defScope st) s.heap.objs.size f cdv)) → sp vs H Q E →
      ∃ t, PSs (cxOf CX0 P w K mg base N qual (defScope st) f cdv A outer s H E).nox (defBody st) t ∧ t { nx := fun _ H' => Q .non H', rt := Q } (start N vs) H) : FnG P w K mg base (k + 1) f fd ps sp := by
  obtain ⟨oc, od, kV, doc, pm, an, cdv, ct, osl, rfl, lk, hcd⟩ := F.ex
  refine ⟨len, fun A outer s H args us vs Q E hg hr e0 hb r hsp => ?_⟩
  have hlen := len _ _ _ _ hsp
  have inS : K.In s.heap := e0.mod.kin.keeps fun b o e => (e0.bs b o e).1
  have limS : s.heap.NoLimit := e0.mod.nolimit.keeps fun b o e => (e0.bs b o e).1
  have kinds : ∀ y ∈ ps.zip us, (defScope st).names.lookup y.1 = some .local ∨ ((defScope st).names.lookup y.1 = some .cell ∧ ((cellsFrom (s.heap.objs.size + 1) (defScope st).names []).lookup y.1).isSome = true) := by
    rintro ⟨n, v⟩ hy
    exact (S.par n (List.of_mem_zip hy).1).imp id fun q => ⟨q, PySem.W.cellsFrom_some _ _ _ (.inl q)⟩
  refine codeAny_call_function hr.depth (inS _ _ lk) rfl S.co S.gen rfl (PySem.W.codeRec_of inS hcd) (hb _ _ _ _ ?_)
  refine wpAny_newFunctionEnv_cells S.kind kinds fun env henv s1 x => ?_
  subst henv
  refine ⟨limS.keeps x.toInCall.keep, codeAny_func ?_⟩
  obtain ⟨t, ht, hq⟩ := go cdv A outer s H vs Q E hg (hr.deeper _) hsp
  have I : Inv (cxOf CX0 P w K mg base N qual (defScope st) f cdv A outer s H E) [] (start N vs) H s1 := inv_start S hr.hd e0 hlen r x
  refine wpAny_mono (ht.nox.run [] s1 (start N vs) H _ I hq) (fun fl s' hs => ?_) fun e s' hs => hs
  cases fl with
  | ret u =>
    obtain ⟨v, σ', H', J, rv, q⟩ := hs
    exact ⟨v, H', J.os, J.bare, J.base, J.hok, rv, q⟩
  | next =>
    obtain ⟨σ', H', J, q⟩ := hs
    exact ⟨V.non, H', J.os, J.bare, J.base, J.hok, rfl, q⟩
  | brk => exact hs.elim fun _ z => z.elim fun _ y => y.2.elim
  | cont => exact hs.elim fun _ z => z.elim fun _ y => y.2.elim
end
section
variable {X : Cx} {k : Nat} {f : Addr} {fd : FuncData} {ps : List Str} {sp : Sp} {dvs : List V} {ds : List Value} {E : XK} {x : Str} {p pos : Pos} {e : Expr} {es : List Expr} {t : TA}
theorem pe_callG (hgd : X.A.guards = some []) (F : FnG X.prog X.w X.K X.mg X.base k f fd ps sp) (hr : Room k X.A) (hg : Gl X x) (hm : X.mg x = some (.ref f)) (hk : PySem.W.keepIn X.K (.ref f) = true) (hb : Binds X.K fd ps ds) (hd : Vals dvs ds)
    (hx : Passes CX0 X E) (ha : PA X (e :: es) t) (hdb : (x == ("__debug__" : Str)) = false := by decide) (he : starEach (e :: es) X.env = (false, eval e X.env) :: starEach es X.env := by rfl)
    (hpl : (backTo pos (starEach es X.env)).any (·.1) = false := by rfl) : PE X (.Call (.Name x p) (e :: es) [] pos) (tCall sp dvs E t) := by
  refine ⟨fun pins s σ H Q I h => wpAny_Call_Name_kw (ld_glob I hg hm (PySem.W.callWith_K (h₀ := X.base) I.ok.mod.kin hk (thn (ha.run pos pins s σ H _ I h) fun us s1 ⟨vs, H1, I1, r, q⟩ => ⟨I1.kIn, ?_⟩) he hpl) hdb)⟩
  have r2 : Vals (vs ++ dvs) (us ++ ds) := r.append hd
  have hl : (us ++ ds).length = ps.length := r2.length.symm.trans (F.len _ _ _ _ q)
  refine wpAny_call (codeAny_mono (F.run X.A X.stack s1 H1 ⟨us, []⟩ (us ++ ds) (vs ++ dvs) Q E hgd hr I1.env0 (hb s1 us I1.kIn hl) r2 q) fun rr s' hq => ?_)
  cases rr with
  | error er => exact hx pins σ H1 s1 er s' I1 hq
  | ok fl => cases fl <;> first | exact I1.after hq | exact False.elim hq
/-- repr of data -/
def rReprD (K : PySem.W.Frag) : List V → Hp → VK → Prop := fun xs H Q => ∃ (v : V) (d : PyData), xs = [v] ∧ Dp K H v d ∧ d.showable = true ∧ d.hasDict = false ∧ d.depth ≤ 40 ∧ d.shown.length ≤ sizeLine ∧ Q (.str d.shown) H
theorem call_reprD (hgd : X.A.guards = some []) (hu : X.A.units + 64 < cLine) : CallR X (.builtin "repr") (rReprD X.K) := by
  intro pins s σ H xs us Q I r h
  obtain ⟨v, d, rfl, hd, hs, hn, hdp, hz, q⟩ := h
  obtain ⟨u, rfl, ru⟩ := vals1 r
  obtain ⟨as, rd⟩ := Dp.reads I d v u hd ru
  have fin : ∀ h' t tk, (∀ b o, s.heap.get? b = some o → h'.get? b = some o) → EP X pins σ Q (.str d.shown t) { s with heap := h', toks := tk } := fun h' t tk kp => ⟨.str d.shown, H, I.kept kp, ⟨t, rfl⟩, q⟩
  have hsz := hz
  cases rd with
  | none =>
    simp only [PyData.shown] at fin
    exact PySem.P.repr_of_none (fin s.heap _ _ fun _ _ z => z)
  | bool b =>
    simp only [PyData.shown] at fin
    exact PySem.P.repr_of_bool (fin s.heap _ _ fun _ _ z => z)
  | int i t =>
    simp only [PyData.shown] at fin
    exact PySem.P.repr_of_int (by simpa [PyData.showable] using hs) (fin s.heap _ _ fun _ _ z => z)
  | str x t =>
    simp only [PyData.shown] at fin hsz
    exact PySem.P.repr_of_str (fin s.heap _ _ fun _ _ z => z) hsz
  | list h1 h2 h3 h4 => exact repr_of_reads' (.list h1 h2 h3 h4) hs (PyData.noDict_hsm hn) hgd (by omega) (fun _ _ z => z) fin hz
  | tuple h1 h2 h3 h4 => exact repr_of_reads' (.tuple h1 h2 h3 h4) hs (PyData.noDict_hsm hn) hgd (by omega) (fun _ _ z => z) fin hz
  | dict h1 h2 h3 h4 h5 => simp [PyData.hasDict] at hn
end
end UL
set_option Elab.async false
set_option linter.all false
set_option maxRecDepth 100000
set_option maxHeartbeats 4000000
namespace UL
open PySem PySem.Spec PyProof.Rows L2
/-! ### the law's own call, by a promise of the kind FnG -/
section
variable {P : Program} {w : World} {K : PySem.W.Frag} {mg mb : Str → Option Value} {k : Nat} {fa a : Addr} {fd : FuncData} {x : Str} {sp : Sp} {s₁ : Shared} {vs : List Value} {ns : List Int}
/-- from an abstract heap that tracks the script alone, if anything -/
theorem call_from {H : Hp} (KX : K.In s₁.heap) (hns : s₁.heap.Ns mainGlobals mg) (hb : s₁.heap.Ns builtinsNs mb) (hbb : ∀ x : Str, x ≠ "__name__" → mb x = bootBuiltins x) (hlim : s₁.heap.NoLimit) (hg : s₁.gens = #[])
    (ha : s₁.heap.get? a = some { cls := .type "list", data := .seq vs.toArray }) (hr : Room k callerA) (F : ∀ base : Heap, K.In base → base.Ns mainGlobals mg → FnG P w K mg base k fa fd [x] sp) (hbind : ∀ (s : Shared) (u : Value), BindsTo s fd ⟨[u], []⟩ [(x, u)])
    (hO : Only H) (hok : HOk P w H s₁.heap) (only : ∀ b, H b ≠ none → b = a) (out : H a ≠ none → K.lookup a = none) (hsp : sp [.ref a] H (fun v _ => v = .bl true) fun _ _ _ => False) :
    codeAny (model P w) callerA (.call (.ref fa) ⟨[.ref a], []⟩) (fun r s' => r = .ok (.ret (.bool true)) ∧ OldK s₁.heap s'.heap ∧ s'.os = s₁.os ∧ AllBare s'.gens) s₁ := by
  -- what the script's address bears is no dict and no part of the written text
  have hid : ∀ {b : Addr} {o : Obj}, s₁.heap.get? b = some o → (b = a → H a = none) → (hidT s₁.heap H).get? b = some o := fun {b o} e n => hidT_get e (by
    cases q : H b with
    | none => rfl
    | some u =>
      have z : b = a := only b (fun y => by rw [y] at q; cases q)
      rw [z, n z] at q
      cases q)
  have hns' : ∀ {b : Addr} {m : Str → Option Value}, s₁.heap.Ns b m → (hidT s₁.heap H).Ns b m := fun {b m} ⟨o, es, ep, e, d, r⟩ => ⟨o, es, ep, hid e (fun z => by
    subst z
    rw [ha] at e
    cases e
    cases d), d, r⟩
  have hK' : K.In (hidT s₁.heap H) := fun b o e => hid (KX b o e) (fun z => by
    cases q : H a with
    | none => rfl
    | some u =>
      have y := out (fun t => by rw [t] at q; cases q)
      rw [z, y] at e
      cases e)
  have hM : Mod K mg (hidT s₁.heap H) := ⟨hK', hns' hns, ⟨mb, hns' hb, hbb⟩, let ⟨mc, h1, h2⟩ := hlim; ⟨mc, hns' h1, h2⟩⟩
  have e0 : Env0 P w K mg (hidT s₁.heap H) callerA [] s₁ H := ⟨rfl, hM, fun b o e => of_hidT e, Nat.le_of_eq (hidT_size _ _), trivial, fun b z => (nomatch (show b ∈ ([] : List Addr) from z)), hok, .of_eq hg⟩
  refine codeAny_mono ((F _ hK' (hns' hns)).run callerA [] s₁ H ⟨[.ref a], []⟩ [.ref a] [.ref a] _ _ rfl hr e0 (hbind s₁ (.ref a)) (.cons rfl .nil) hsp) fun r s' h => ?_
  match r, h with
  | .ok (.ret u), ⟨v, H', os, bare, un, hok', r', q⟩ =>
    cases (show v = .bl true from q)
    cases (show u = Value.bool true from r')
    refine ⟨rfl, OldK.of_keep fun b o e => ?_, os, bare⟩
    rcases hO b with z | ⟨ob, xs, z⟩
    · exact un.keep b o e z (fun y => nomatch (show b ∈ ([] : List Addr) from y)) (fun y => nomatch (show b ∈ ([] : List Addr) from y))
    · obtain ⟨e1, _⟩ := hok b _ z
      obtain ⟨e2, _⟩ := hok' b _ (un.frzs b ob _ z)
      rw [e] at e1
      cases e1
      exact e2
theorem law_callG (KX : K.In s₁.heap) (hns : s₁.heap.Ns mainGlobals mg) (hb : s₁.heap.Ns builtinsNs mb) (hbb : ∀ x : Str, x ≠ "__name__" → mb x = bootBuiltins x) (hlim : s₁.heap.NoLimit) (hg : s₁.gens = #[])
    (ha : s₁.heap.get? a = some { cls := .type "list", data := .seq vs.toArray }) (hi : IntsAre vs ns) (hl : ns.length ≤ sizeLine) (hr : Room k callerA) (F : ∀ base : Heap, K.In base → base.Ns mainGlobals mg → FnG P w K mg base k fa fd [x] sp)
    (hbind : ∀ (s : Shared) (u : Value), BindsTo s fd ⟨[u], []⟩ [(x, u)]) (hsp : ∀ H : Hp, Only H → SqL K H a (ns.map V.int) → sp [.ref a] H (fun v _ => v = .bl true) fun _ _ _ => False) :
    codeAny (model P w) callerA (.call (.ref fa) ⟨[.ref a], []⟩) (fun r s' => r = .ok (.ret (.bool true)) ∧ OldK s₁.heap s'.heap ∧ s'.os = s₁.os ∧ AllBare s'.gens) s₁ := by
  have rv := vals_ints hi
  have lenV := hi.length
  cases hk : K.lookup a with
  | some o =>
    obtain rfl : _ = o := Option.some.inj (ha.symm.trans (KX a o hk))
    have hO : Only fun _ => none := fun _ => .inl rfl
    exact call_from (H := fun _ => none) KX hns hb hbb hlim hg ha hr F hbind hO (fun b u z => nomatch (show (none : Option HO) = some u from z)) (fun b z => absurd rfl z) (fun z => absurd rfl z)
      (hsp _ hO (.inr ⟨_, vs.toArray, _, hk, rfl, rfl, rfl, by rw [List.size_toArray, lenV]; exact hl, by simpa using rv⟩))
  | none =>
    let H0 : Hp := fun b => if b = a then some (.frz { cls := .type "list", data := .seq vs.toArray } (.lst (ns.map V.int))) else none
    have at_ : H0 a = some (.frz { cls := .type "list", data := .seq vs.toArray } (.lst (ns.map V.int))) := if_pos rfl
    have no_ : ∀ b, b ≠ a → H0 b = none := fun b z => if_neg z
    have hO : Only H0 := fun b => if z : b = a then .inr ⟨{ cls := .type "list", data := .seq vs.toArray }, ns.map V.int, z ▸ at_⟩ else .inl (no_ b z)
    refine call_from (H := H0) KX hns hb hbb hlim hg ha hr F hbind hO (fun b u z => ?_) (fun b z => Decidable.byContradiction fun y => z (no_ b y)) (fun _ => hk) (hsp _ hO (.inl (.inr ⟨_, at_⟩)))
    by_cases y : b = a
    · subst y
      rw [at_] at z
      cases z
      exact ⟨ha, by rw [List.length_map]; exact hl, vs, _, rv, ha⟩
    · rw [no_ b y] at z
      cases z
end
theorem walkG {l : PySem.W.OpenLaw} {n k : Nat} {q : Program} {loose : List Str} {XP : (Str → Option Value) → Heap → Prop} {YP : World → Heap → Prop} {d : DefRec} {K : Params → PySem.W.Frag} {sp : World → Sp} {x : Str}
    (hn : l.most = some n) (hn2 : n ≤ sizeLine) (hdf : d.params.defaults = []) (hr : Room k callerA) (hY : ∀ (w : World) (h : Heap), YP w h → (K w.params).In h)
    (F : ∀ (w : World) (mg : Str → Option Value) (fa : Addr) (h : Heap), (K w.params).In h → h.Ns mainGlobals mg → mg d.name = some (.ref fa) →
      ∃ fd : FuncData, (∀ (s : Shared) (u : Value), BindsTo s fd ⟨[u], []⟩ [(x, u)]) ∧ ∀ base : Heap, (K w.params).In base → base.Ns mainGlobals mg → FnG l.prog w (K w.params) mg base k fa fd [x] (sp w))
    (hsp : ∀ (w : World) (H : Hp) (a : Addr) (ns : List Int), ns.length ≤ n → Only H → SqL (K w.params) H a (ns.map V.int) → sp w [.ref a] H (fun v _ => v = .bl true) fun _ _ _ => False) :
    PySem.W.WalkO q loose XP YP l.row.toRowW d [] (fun f vs => PySem.call f vs) := by
  refine Att.attach_call hn hdf fun w s₀ s₁ mg mb fa o pm cd doc a vs ns G Y _ _ _ hmg hobj hints hlen hg => ?_
  have KX := hY w _ Y
  obtain ⟨fd, hb, hF⟩ := F w mg fa _ KX G.T.g hmg
  exact law_callG KX G.T.g G.T.b G.T.builtins G.T.nolimit hg hobj hints (Nat.le_trans hlen hn2) hr hF hb fun H hO hS => hsp w H a ns hlen hO hS
end UL
set_option Elab.async false
set_option linter.all false
set_option maxRecDepth 100000
set_option maxHeartbeats 4000000
namespace UL
open PySem PySem.Spec PyProof.Rows L2
/-! ### what a caller knows of a def, a method, a property, a class's maker: its promise, nothing else -/
section
variable (P : Program) (w : World) (K : PySem.W.Frag) (mg : Str → Option Value) (base : Heap)
/-- the module's def x keeps sp, at level k -/
def Cal (k : Nat) (x : Str) (sp : Sp) : Prop := ∃ f fd ps, FnOk P w K mg base CX0 k f fd ps sp ∧ PySem.W.keepIn K (.ref f) = true ∧ Binds K fd ps [] ∧ mg x = some (.ref f)
def CalG (k : Nat) (x : Str) (sp : Sp) : Prop := ∃ f fd ps, FnG P w K mg base k f fd ps sp ∧ PySem.W.keepIn K (.ref f) = true ∧ Binds K fd ps [] ∧ mg x = some (.ref f)
/-- the method m of the class at C -/
def CalM (k : Nat) (C : Addr) (m : Str) (sp : Sp) : Prop := ∃ f fd ps, FnOk P w K mg base CX0 k f fd ps sp ∧ Cls K C ∧ Meth K C m f ∧ Binds K fd ps []
/-- .. called with the keywords ks, no positional arguments but self -/
def CalMK (k : Nat) (C : Addr) (m : Str) (ks : List Str) (gV : List V → List V → List V) (sp : Sp) : Prop := ∃ f fd ps g, FnOk P w K mg base CX0 k f fd ps sp ∧ Cls K C ∧ Meth K C m f ∧ KBn K fd ps 1 ks g gV
/-- the property m of the class at C -/
def CalP (k : Nat) (C : Addr) (m : Str) (sp : Sp) : Prop := ∃ p f fd ps, FnOk P w K mg base CX0 k f fd ps sp ∧ Cls K C ∧ PropOf K C m p f ∧ Binds K fd ps []
/-- the class x, at C, made by its __init__, the defaults dvs behind what is written -/
def Mak (k : Nat) (x : Str) (C : Addr) (dvs : List V) (sp : Sp) : Prop := ∃ f fd ps ds, FnOk P w K mg base CX0 k f fd ps sp ∧ Mk K C f ∧ mg x = some (.ref C) ∧ Binds K fd ps ds ∧ Vals dvs ds
/-- .. with the keywords ks alone -/
def MakK (k : Nat) (x : Str) (C : Addr) (ks : List Str) (gV : List V → List V → List V) (sp : Sp) : Prop := ∃ f fd ps g, FnOk P w K mg base CX0 k f fd ps sp ∧ Mk K C f ∧ mg x = some (.ref C) ∧ KBn K fd ps 1 ks g gV
/-- the special method m of the class at C, asked by an operator or a built-in -/
def CalS (k : Nat) (C : Addr) (m : Str) (sp : Sp) : Prop := ∃ f, FnR P w K mg base CX0 k f sp ∧ PySem.W.findIn K (.ref C) m = some (some (.ref f)) ∧ PySem.W.isFn K (.ref f) = true
/-- the static method m of the class x at C -/
def CalT (k : Nat) (C : Addr) (m : Str) (sp : Sp) : Prop := ∃ p f fd ps mc, FnOk P w K mg base CX0 k f fd ps sp ∧ SMet K C mc m p f ∧ Binds K fd ps []
def CalTK (k : Nat) (C : Addr) (m : Str) (ks : List Str) (gV : List V → List V → List V) (sp : Sp) : Prop := ∃ p f fd ps mc g, FnOk P w K mg base CX0 k f fd ps sp ∧ SMet K C mc m p f ∧ KBn K fd ps 0 ks g gV
end
section
variable {X : Cx} {k j : Nat} {x m : Str} {C : Addr} {sp : Sp} {dvs : List V} {e o : Expr} {es : List Expr} {kws : List Keyword} {ks : List Str} {gV : List V → List V → List V} {t tk : TA} {ta : TE} {p pos apos : Pos}
theorem pe_c (c : Cal X.prog X.w X.K X.mg X.base k x sp) (hr : Room j X.A) (hk : k ≤ j) (hg : Gl X x) (ha : PA X (e :: es) t) (hdb : (x == ("__debug__" : Str)) = false := by decide)
    (he : starEach (e :: es) X.env = (false, eval e X.env) :: starEach es X.env := by rfl) (hpl : (backTo pos (starEach es X.env)).any (·.1) = false := by rfl) : PE X (.Call (.Name x p) (e :: es) [] pos) (tCall sp [] E0 t) := by
  obtain ⟨f, fd, ps, F, kp, b, g⟩ := c
  exact pe_call F (hr.mono hk) hg g kp b .nil pass0 ha hdb he hpl
theorem pe_cG (hgd : X.A.guards = some []) (c : CalG X.prog X.w X.K X.mg X.base k x sp) (hr : Room j X.A) (hk : k ≤ j) (hg : Gl X x) (ha : PA X (e :: es) t) (hdb : (x == ("__debug__" : Str)) = false := by decide)
    (he : starEach (e :: es) X.env = (false, eval e X.env) :: starEach es X.env := by rfl) (hpl : (backTo pos (starEach es X.env)).any (·.1) = false := by rfl) : PE X (.Call (.Name x p) (e :: es) [] pos) (tCall sp [] E0 t) := by
  obtain ⟨f, fd, ps, F, kp, b, g⟩ := c
  exact pe_callG hgd F (hr.mono hk) hg g kp b .nil pass0 ha hdb he hpl
theorem pe_m {pl : Sem Bool} (he : PE X o ta) (c : CalM X.prog X.w X.K X.mg X.base k C m sp) (hr : Room j X.A) (hk : k ≤ j) (ha : PA X (e :: es) t)
    (hst : starEach (e :: es) X.env = (false, eval e X.env) :: starEach es X.env := by rfl) (hpl : (backTo pos (starEach es X.env)).any (·.1) = false := by rfl)
    (ht : eval (.Call (.Attribute o m apos) (e :: es) [] pos) X.env = (do
      let ov ← eval o X.env
      standAt apos.atName
      let (fv, fi) ← holding [ov] (getMethod ov m pl)
      callWith pos fv fi (backTo pos (starEach (e :: es) X.env)) (backToKw pos (keywordEach [] X.env))) := by rfl) :
    PE X (.Call (.Attribute o m apos) (e :: es) [] pos) (tMeth C m sp [] E0 ta t) := by
  obtain ⟨f, fd, ps, F, cl, mt, b⟩ := c
  exact pe_meth he cl mt F (hr.mono hk) b .nil pass0 ha hst hpl ht
/-- o.m(k = v, ..) -/
def tMethK (C : Addr) (m : Str) (n : Nat) (gV : List V → List V → List V) (sp : Sp) (ta : TE) (tk : TA) : TE := fun σ H Q => ta σ H fun x H1 => ∃ a dx fs, x = .ref a ∧ H1 a = some (.ins C dx fs) ∧ fs.lookup m = none ∧ tk σ H1 fun zs H2 => zs.length = n ∧ sp (gV [x] zs) H2 Q E0
theorem pe_mK {pl : Sem Bool} (he : PE X o ta) (c : CalMK X.prog X.w X.K X.mg X.base k C m ks gV sp) (hr : Room j X.A) (hk : k ≤ j) (hkw : PK X kws tk)
    (hall : (backToKw pos (keywordEach kws X.env)).all (·.1.isSome) = true := by rfl) (hks : (backToKw pos (keywordEach kws X.env)).filterMap (·.1) = ks := by rfl)
    (hpl : ((backTo pos (starEach [] X.env)).any (·.1) || (backToKw pos (keywordEach kws X.env)).any (·.1.isNone)) = false := by rfl)
    (ht : eval (.Call (.Attribute o m apos) [] kws pos) X.env = (do
      let ov ← eval o X.env
      standAt apos.atName
      let (fv, fi) ← holding [ov] (getMethod ov m pl)
      callWith pos fv fi (backTo pos (starEach [] X.env)) (backToKw pos (keywordEach kws X.env))) := by rfl) :
    PE X (.Call (.Attribute o m apos) [] kws pos) (tMethK C m ks.length gV sp ta tk) := by
  obtain ⟨f, fd, ps, g, F, cl, mt, b⟩ := c
  refine ⟨fun pins s σ H Q I h => ?_⟩
  refine PySem.W.methodCall_KW (pl := pl) (thn (he.run pins s σ H _ I h) fun u s1 ⟨x, H1, I1, rx, a, dx, fs, ex, ea, l, q⟩ => ?_) ht
  subst ex
  obtain rfl : u = Value.ref a := rx
  refine getmeth_ok I1 ea cl mt l ?_
  refine PySem.W.callWith_KW0 (first := [.ref a]) (h₀ := X.base) I.ok.mod.kin mt.kp hall ?_ hpl
  refine thn (hkw.run pos pins s1 σ H1 _ I1 q) fun ws s3 ⟨zs, H2, I3, rz, l2, q2⟩ => ⟨I3.kIn, ?_⟩
  rw [hks]
  exact run_fnN (us := [.ref a]) (vs := [.ref a]) F (hr.mono hk) b pass0 I3 (.cons rfl .nil) rz rfl l2 q2
theorem pe_p (he : PE X o ta) (c : CalP X.prog X.w X.K X.mg X.base k C m sp) (hr : Room j X.A) (hk : k + 1 ≤ j) (hab : attributeBase o m X.env (eval o X.env) = eval o X.env) : PE X (.Attribute o m pos) (tProp C sp [] E0 ta) := by
  obtain ⟨q, f, fd, ps, F, cl, pr, b⟩ := c
  exact pe_prop he cl pr F (hr.mono hk) b .nil pass0 hab
theorem pe_n (c : Mak X.prog X.w X.K X.mg X.base k x C dvs sp) (hr : Room j X.A) (hk : k + 1 ≤ j) (hg : Gl X x) (ha : PA X (e :: es) t) (hdb : (x == ("__debug__" : Str)) = false := by decide)
    (he : starEach (e :: es) X.env = (false, eval e X.env) :: starEach es X.env := by rfl) (hpl : (backTo pos (starEach es X.env)).any (·.1) = false := by rfl) : PE X (.Call (.Name x p) (e :: es) [] pos) (tMake C sp dvs E0 t) := by
  obtain ⟨f, fd, ps, ds, F, M, g, b, v⟩ := c
  exact pe_make M F (hr.mono hk) hg g b v pass0 ha hdb he hpl
theorem pe_n0 (c : Mak X.prog X.w X.K X.mg X.base k x C dvs sp) (hr : Room j X.A) (hk : k + 1 ≤ j) (hg : Gl X x) (hdb : (x == ("__debug__" : Str)) = false := by decide) : PE X (.Call (.Name x p) [] [] pos) (tMake C sp dvs E0 tNil) := by
  obtain ⟨f, fd, ps, ds, F, M, g, b, v⟩ := c
  exact pe_make0 M F (hr.mono hk) hg g b v pass0 hdb
theorem pe_nK (c : MakK X.prog X.w X.K X.mg X.base k x C ks gV sp) (hr : Room j X.A) (hk : k + 1 ≤ j) (hg : Gl X x) (hkw : PK X kws tk)
    (hall : (backToKw pos (keywordEach kws X.env)).all (·.1.isSome) = true := by rfl) (hks : (backToKw pos (keywordEach kws X.env)).filterMap (·.1) = ks := by rfl) (hdb : (x == ("__debug__" : Str)) = false := by decide)
    (hpl : ((backTo pos (starEach [] X.env)).any (·.1) || (backToKw pos (keywordEach kws X.env)).any (·.1.isNone)) = false := by rfl) :
    PE X (.Call (.Name x p) [] kws pos) (tMakeK C 0 ks.length sp gV E0 tNil tk) := by
  obtain ⟨f, fd, ps, gg, F, M, g, b⟩ := c
  exact pe_makeK0 M F (hr.mono hk) hg g b pass0 hkw hall hks hdb hpl
theorem op_eqS (c : CalS X.prog X.w X.K X.mg X.base k C "__eq__" sp) (hr : Room j X.A) (hk : k ≤ j) : OpR X (compareOp .Eq) (rEqI X.K C sp E0) := by
  obtain ⟨f, F, h1, h2⟩ := c
  exact op_eqI h1 h2 F (hr.mono hk) pass0
theorem call_reprS (c : CalS X.prog X.w X.K X.mg X.base k C "__repr__" sp) (hr : Room j X.A) (hk : k + 1 ≤ j) : CallR X (.builtin "repr") (rShowI C sp E0) := by
  obtain ⟨f, F, h1, h2⟩ := c
  exact call_reprI h1 h2 F (hr.mono hk) pass0
theorem call_strS (c : CalS X.prog X.w X.K X.mg X.base k C "__str__" sp) (hr : Room j X.A) (hk : k + 2 ≤ j) : CallR X (.type "str") (rShowI C sp E0) := by
  obtain ⟨f, F, h1, h2⟩ := c
  exact call_strI h1 h2 F (hr.mono hk) pass0
theorem pe_t {pl : Sem Bool} (he : PE X o ta) (c : CalT X.prog X.w X.K X.mg X.base k C m sp) (hr : Room j X.A) (hk : k ≤ j) (ha : PA X (e :: es) t)
    (hst : starEach (e :: es) X.env = (false, eval e X.env) :: starEach es X.env := by rfl) (hpl : (backTo pos (starEach es X.env)).any (·.1) = false := by rfl)
    (ht : eval (.Call (.Attribute o m apos) (e :: es) [] pos) X.env = (do
      let ov ← eval o X.env
      standAt apos.atName
      let (fv, fi) ← holding [ov] (getMethod ov m pl)
      callWith pos fv fi (backTo pos (starEach (e :: es) X.env)) (backToKw pos (keywordEach [] X.env))) := by rfl) :
    PE X (.Call (.Attribute o m apos) (e :: es) [] pos) (tSMeth C sp [] E0 ta t) := by
  obtain ⟨q, f, fd, ps, mc, F, s, b⟩ := c
  exact pe_smeth he s F (hr.mono hk) b .nil pass0 ha hst hpl ht
theorem pe_tK {pl : Sem Bool} (he : PE X o ta) (c : CalTK X.prog X.w X.K X.mg X.base k C m ks gV sp) (hr : Room j X.A) (hk : k ≤ j) (hkw : PK X kws tk)
    (hall : (backToKw pos (keywordEach kws X.env)).all (·.1.isSome) = true := by rfl) (hks : (backToKw pos (keywordEach kws X.env)).filterMap (·.1) = ks := by rfl)
    (hpl : ((backTo pos (starEach [] X.env)).any (·.1) || (backToKw pos (keywordEach kws X.env)).any (·.1.isNone)) = false := by rfl)
    (ht : eval (.Call (.Attribute o m apos) [] kws pos) X.env = (do
      let ov ← eval o X.env
      standAt apos.atName
      let (fv, fi) ← holding [ov] (getMethod ov m pl)
      callWith pos fv fi (backTo pos (starEach [] X.env)) (backToKw pos (keywordEach kws X.env))) := by rfl) :
    PE X (.Call (.Attribute o m apos) [] kws pos) (tSMethK C ks.length sp gV E0 ta tk) := by
  obtain ⟨q, f, fd, ps, mc, g, F, s, b⟩ := c
  exact pe_smethK he s F (hr.mono hk) b pass0 hkw hall hks hpl ht
end
end UL
set_option Elab.async false
set_option linter.all false
set_option maxRecDepth 100000
set_option maxHeartbeats 4000000
namespace UL
open PySem L2
/-! ### small facts of numbers, texts, lists -/
theorem log_small {i : Int} (h : i.natAbs < 2 ^ 64) : i.natAbs.log2 < 1920 := by
  by_cases c : i.natAbs = 0
  · rw [c]
    decide
  · exact Nat.lt_of_lt_of_le ((Nat.log2_lt c).mpr h) (by decide)
theorem eqV_self_str (x : Str) : eqV (.str x) (.str x) = true := by simp [eqV]
theorem eqV_self_int (x : Int) : eqV (.int x) (.int x) = true := by simp [eqV]
theorem inV_mem {v : V} {xs : List V} (h : v ∈ xs) (e : eqV v v = true) : inV v xs = true := List.any_eq_true.mpr ⟨v, h, e⟩
theorem line_ge {n : Nat} (h : n ≤ 16000000) : n ≤ sizeLine := by
  rw [sizeLine_eq]
  omega
theorem line_gt {n : Nat} (h : n ≤ 16000000) : n < sizeLine := by
  rw [sizeLine_eq]
  omega
end UL
set_option Elab.async false
set_option linter.all false
set_option maxRecDepth 100000
set_option maxHeartbeats 4000000
namespace UL
open PySem L2
/-! ### data: shapes, equality -/
theorem shaped_of {d : PyData} (h : d.canLay0 = true) (g : d.depth ≤ 64) : SeqAt.shaped d = true := by
  show (d.canLay0 && decide (d.depth ≤ 64)) = true
  rw [h, decide_eq_true g]
  rfl
theorem lay_all : ∀ {ds : List PyData}, (∀ d ∈ ds, d.canLay0 = true) → PyData.canLayAll0 ds = true
  | [], _ => by simp [PyData.canLayAll0]
  | d :: ds, h => by simp [PyData.canLayAll0, h d List.mem_cons_self, lay_all fun e he => h e (List.mem_cons_of_mem _ he)]
theorem depth_all {k : Nat} : ∀ {ds : List PyData}, (∀ d ∈ ds, d.depth ≤ k) → PyData.depthAll ds ≤ k
  | [], _ => by simp [PyData.depthAll]
  | d :: ds, h => by
    simp only [PyData.depthAll]
    have h1 := h d List.mem_cons_self
    have h2 := depth_all (ds := ds) fun e he => h e (List.mem_cons_of_mem _ he)
    omega
theorem shaped_list {ds : List PyData} {k : Nat} (h : ∀ d ∈ ds, d.canLay0 = true) (g : ∀ d ∈ ds, d.depth ≤ k) (hk : k ≤ 60) : SeqAt.shaped (.list ds) = true :=
  shaped_of (by simpa only [PyData.canLay0] using lay_all h) (by have := depth_all g; simp only [PyData.depth]; omega)
theorem shaped_tuple {ds : List PyData} {k : Nat} (h : ∀ d ∈ ds, d.canLay0 = true) (g : ∀ d ∈ ds, d.depth ≤ k) (hk : k ≤ 60) : SeqAt.shaped (.tuple ds) = true :=
  shaped_of (by simpa only [PyData.canLay0] using lay_all h) (by have := depth_all g; simp only [PyData.depth]; omega)
/-- a pair of an int and a text, as data -/
def pairD (x : Int × Str) : PyData := .tuple [.int x.1, .str x.2]
theorem pairD_eqv (x y : Int × Str) : PyData.eqv (pairD x) (pairD y) = decide (x = y) := by
  obtain ⟨a, b⟩ := x
  obtain ⟨c, d⟩ := y
  have e : PyData.eqv (pairD (a, b)) (pairD (c, d)) = ((a == c) && ((b == d) && true)) := by simp only [pairD, PyData.eqv, PyData.eqvAll]
  rw [e]
  by_cases h1 : a = c <;> by_cases h2 : b = d <;> simp [h1, h2]
theorem pairD_depth (x : Int × Str) : (pairD x).depth ≤ 1 := by simp [pairD, PyData.depth, PyData.depthAll]
theorem pairD_lay {x : Int × Str} (h : (PyData.str x.2).canLay0 = true) : (pairD x).canLay0 = true := by
  simp only [pairD, PyData.canLay0, PyData.canLayAll0]
  simp only [PyData.canLay0] at h
  simp [h]
/-- a list of such pairs at l -/
def PairsAt (H : Hp) (l : Addr) (xs : List (Int × Str)) : Prop := ∃ ps : List Addr, H l = some (.lst (ps.map V.ref)) ∧ ps.length = xs.length ∧
  ∀ (j : Nat) (a : Addr) (x : Int × Str), ps[j]? = some a → xs[j]? = some x → H a = some (.tup [.int x.1, .str x.2])
theorem PairsAt.same {H H' : Hp} {l : Addr} {xs : List (Int × Str)} (h : PairsAt H l xs) (s : L2.Same H H') : PairsAt H' l xs := by
  obtain ⟨ps, h1, h2, h3⟩ := h
  exact ⟨ps, s _ _ h1, h2, fun j a x e1 e2 => s _ _ (h3 j a x e1 e2)⟩
theorem dpAll_at {K : PySem.W.Frag} {H : Hp} : ∀ {vs : List V} {ds : List PyData}, vs.length = ds.length → (∀ (j : Nat) v d, vs[j]? = some v → ds[j]? = some d → Dp K H v d) → DpAll K H vs ds
  | [], [], _, _ => .nil
  | v :: vs, d :: ds, hl, h => .cons (h 0 v d rfl rfl) (dpAll_at (by simpa using hl) fun j a b e1 e2 => h (j + 1) a b (by simpa using e1) (by simpa using e2))
theorem dp_pair {K : PySem.W.Frag} {H : Hp} {a : Addr} {x : Int × Str} (h : H a = some (.tup [.int x.1, .str x.2])) : Dp K H (.ref a) (pairD x) := .tup (SqT.of h) (.cons (.int _) (.cons (.str _) .nil))
theorem PairsAt.dp {K : PySem.W.Frag} {H : Hp} {l : Addr} {xs : List (Int × Str)} (h : PairsAt H l xs) : Dp K H (.ref l) (.list (xs.map pairD)) := by
  obtain ⟨ps, h1, h2, h3⟩ := h
  refine .lst (SqL.of h1) (dpAll_at (by rw [List.length_map, List.length_map, h2]) fun j v d e1 e2 => ?_)
  rw [List.getElem?_map] at e1 e2
  obtain ⟨a, ea, rfl⟩ := Option.map_eq_some_iff.mp e1
  obtain ⟨x, ex, rfl⟩ := Option.map_eq_some_iff.mp e2
  exact dp_pair (h3 j a x ea ex)
theorem any_pairs (xs : List (Int × Str)) (x : Int × Str) : ((xs.map pairD).any fun z => PyData.eqv z (pairD x)) = decide (x ∈ xs) := by
  rw [List.any_map]
  rw [Bool.eq_iff_iff, List.any_eq_true, decide_eq_true_iff]
  constructor
  · rintro ⟨y, hy, e⟩
    have e' : PyData.eqv (pairD y) (pairD x) = true := e
    rw [pairD_eqv] at e'
    rw [← of_decide_eq_true e']
    exact hy
  · intro h
    refine ⟨x, h, ?_⟩
    show PyData.eqv (pairD x) (pairD x) = true
    rw [pairD_eqv]
    exact decide_eq_true rfl
/-- ints as data -/
theorem dp_ints {K : PySem.W.Frag} {H : Hp} : ∀ ns : List Int, DpAll K H (ns.map V.int) (ns.map PyData.int)
  | [] => .nil
  | n :: ns => .cons (.int n) (dp_ints ns)
theorem dp_bls {K : PySem.W.Frag} {H : Hp} : ∀ bs : List Bool, DpAll K H (bs.map V.bl) (bs.map PyData.bool)
  | [] => .nil
  | n :: ns => .cons (.bl n) (dp_bls ns)
end UL
set_option Elab.async false
set_option linter.all false
set_option maxRecDepth 100000
set_option maxHeartbeats 4000000
namespace UL
open PySem PySem.Spec PyProof.Rows L2
/-! ### from the facts that the top has written to what a caller knows -/
section
variable {P : Program} {w : World} {K : PySem.W.Frag} {mg : Str → Option Value} {base : Heap}
/-- a def without defaults, called with the keywords ks behind n values -/
theorem Fun.kbn {x qual : Str} {st : Stmt} {f : Addr} {fd : FuncData} {ps : List Str} (F : Fun K x qual st f fd) (n : Nat) (ks : List Str) (g : {α : Type} → List α → List α → List α)
    (hrel : ∀ {vs zs : List V} {us ws : List Value}, Vals vs us → Vals zs ws → Vals (g vs zs) (g us ws))
    (h : ∀ (kV doc pm : Value) (an : Option Addr) (cdv ct : Value) (us ws : List Value), us.length = n → ws.length = ks.length → bindArgs (PySem.W.fnOf x qual (defArgs st) (defBody st) (defScope st) .none kV doc pm an cdv ct) ⟨us, ks.zip ws⟩ = pure (ps.zip (g us ws))) :
    KBn K fd ps n ks (fun us ws => g us ws) (fun vs zs => g vs zs) := by
  obtain ⟨oc, od, kV, doc, pm, an, cdv, ct, osl, rfl, lk, hcd⟩ := F.ex
  exact ⟨fun s us ws _ l1 l2 => .of_eq (h kV doc pm an cdv ct us ws l1 l2), fun r1 r2 => hrel r1 r2⟩
theorem vals_app {vs zs : List V} {us ws : List Value} (a : Vals vs us) (b : Vals zs ws) : Vals (vs ++ zs) (us ++ ws) := a.append b
theorem vals_rev {zs : List V} {ws : List Value} (b : Vals zs ws) : Vals zs.reverse ws.reverse := by
  induction b with
  | nil => exact .nil
  | cons r _ ih =>
    rw [List.reverse_cons, List.reverse_cons]
    exact ih.append (.cons r .nil)
theorem vals_apprev {vs zs : List V} {us ws : List Value} (a : Vals vs us) (b : Vals zs ws) : Vals (vs ++ zs.reverse) (us ++ ws.reverse) := a.append (vals_rev b)
/-- a built-in class and an own one -/
theorem kt_of {T : String} {C : Addr} (h1 : PySem.W.isClsIn K C = true) (h2 : PySem.W.typeIn K (.ref C) = some (.type "type")) (h3 : PySem.W.subIn K (.type T) (.ref C) = some false) :
    PySem.W.kitOne K (.type T) (.ref C) = some false ∧ PySem.W.notFirst K C (.type T) = true := by
  constructor
  · unfold PySem.W.kitOne PySem.W.kitCls
    rw [if_neg (by intro z; cases (show false = true from z))]
    dsimp only
    rw [if_pos (by rw [h2]; simp [show (PySem.W.clsIn K C).isSome = true from h1])]
    exact h3
  · unfold PySem.W.notFirst
    rw [h3]
    simp
end
end UL
set_option Elab.async false
set_option linter.all false
set_option maxRecDepth 100000
set_option maxHeartbeats 4000000
namespace PySem
open Sem (wp)
theorem UL_meets_enum1 {v : Value} {o : Obj} {H : Heap → Prop} (B : Begins v o H) :
    Meets (Builtin.«enumerate.__new__» ⟨[.type "enumerate", v], []⟩) (fun _ R s => H s.heap ∧
      R (.ok (.ret (.ref (s.heap.push o).objs.size))) { s with heap := (s.heap.push o).push { cls := .type "enumerate", data := .fields #[.none, .bool false, .ref s.heap.objs.size, rawInt 0, .none, .none] } }) :=
  .of_wp fun prog w A R s h => by
    obtain ⟨hp, g, d, tk, os⟩ := s; obtain ⟨h1, h⟩ := h
    have hsub := sub_enumerate
    have q1 : ∀ {A' : Around} {E : Value → Shared → Prop} {Q : Value → Shared → Prop}, Q (.ref hp.objs.size) ⟨hp.push o, g, d, tk, os⟩ → wpAny (model prog w) A' (pyIter v) Q E ⟨hp, g, d, tk, os⟩ :=
      fun q => B.iter prog w _ _ ⟨hp, g, d, tk, os⟩ _ h1 q
    wp_walk using q1
    refine wpAny_stack_any fun st => wpAny_pure ?_
    split
    · rename_i c _ _ _ _ _
      cases (c == Value.type "enumerate")
      · wp_walk using q1
        exact ⟨_, rfl, h⟩
      · wp_walk using q1
        exact ⟨_, rfl, h⟩
    · wp_walk using q1
      exact ⟨_, rfl, h⟩
theorem UL_enum_begins1 {prog : Program} {w : World} {A : Around} {E : Value → Shared → Prop} {s : Shared} {v : Value} {o : Obj} {H : Heap → Prop} {Q : Value → Shared → Prop} (B : Begins v o H) (h1 : H s.heap)
    (h : ∀ h', IsEnum h' (s.heap.objs.size + 1) s.heap.objs.size 0 .none → h'.get? s.heap.objs.size = some o → h'.objs.size = s.heap.objs.size + 2 →
      (∀ b o, s.heap.get? b = some o → h'.get? b = some o) → Q (.ref (s.heap.objs.size + 1)) { s with heap := h' }) :
    wpAny (model prog w) A (call (.type "enumerate") [v]) Q E s := by
  refine callType_new F.called_enumerate (by decide) (F.typeCall_enumerate_1 _) (F.newCall_enumerate_1 _) (fun obj => F.args_object_init_2 obj _) F.entry_enumerate_new
    (UL_meets_enum1 B) ⟨h1, ?_⟩
  have hz : (s.heap.push o).objs.size = s.heap.objs.size + 1 := Heap.size_push ..
  show _ ∧ _
  rw [hz]
  have he : IsEnum ((s.heap.push o).push { cls := .type "enumerate", data := .fields #[.none, .bool false, .ref s.heap.objs.size, rawInt 0, .none, .none] }) (s.heap.objs.size + 1) s.heap.objs.size 0 .none := by
    have := Heap.get?_push_size (s.heap.push o) (o := { cls := .type "enumerate", data := .fields #[.none, .bool false, .ref s.heap.objs.size, rawInt 0, .none, .none] }) rfl
    rw [hz] at this; exact this
  refine ⟨⟨_, he, rfl⟩, h _ he (Heap.get?_push_of_some _ (Heap.get?_push_size _ B.free)) (by rw [Heap.size_push, hz]) fun b o x => Heap.get?_push_of_some _ (Heap.get?_push_of_some _ x)⟩
end PySem
namespace UL
open PySem PySem.Spec PyProof.Rows L2
/-- the tuple at a, each item in a new pair -/
def Itet (K : PySem.W.Frag) (a : Addr) : It :=
  ⟨fun i H => ∃ (xs : List V) (x : V), SqT K H a xs ∧ xs[i]? = some x, fun i H v H' => ∃ T x, v = .ref T ∧ H T = none ∧ H' = upd H T (.tup [.int (i : Nat), x]) ∧ ∀ xs, SqT K H a xs → xs[i]? = some x, fun i H => ∃ xs : List V, SqT K H a xs ∧ xs.length = i⟩
theorem turn_enumT {P : Program} {w : World} {K : PySem.W.Frag} {elts : List Expr} {kk : Nat} {tpos : Pos} (a e it : Addr) :
    Turn P w K (.Tuple elts kk tpos) (Itet K a) [e, it] e (fun i h => (∃ old, IsEnum h e it ((i : Nat) : Int) old) ∧ h.IsTupleIter it a i) where
  mem := by simp
  obj := fun i h st b hb => by
    obtain ⟨⟨old, he⟩, ⟨o, ho, hc, hd⟩⟩ := st
    have e' : b = e ∨ b = it := by simpa using hb
    rcases e' with z | z
    · rw [z]; exact ⟨_, he, fun v q => nomatch q⟩
    · rw [z]; exact ⟨o, ho, fun v q => by rw [hd] at q; cases q⟩
  keep := fun i h h' st k => let ⟨⟨old, he⟩, hi⟩ := st; ⟨⟨old, k e (by simp) _ he⟩, hi.at fun o q => k it (by simp) o q⟩
  item := by
    intro X hP hw hK hc i pins s σ H E I hf st hg
    subst hP hw hK
    obtain ⟨⟨old, he⟩, hit⟩ := st
    obtain ⟨xs, x, hq, hx⟩ := hg
    obtain ⟨its, rv, p, hz⟩ := I.tuple hq
    obtain ⟨u, hu, ru⟩ := rv.get hx
    have p' : s.heap.IsTuple a its.toArray := p
    have hei : e ≠ it := fun z => by
      obtain ⟨o, ho, hc', _⟩ := hit
      rw [← z, he] at ho
      cases ho
      exact absurd (Value.type.inj hc') (by decide)
    have hai : a ≠ it := fun z => by
      obtain ⟨o, ho, hc', _⟩ := hit
      obtain ⟨o2, ho2, hc2, _⟩ := p'
      rw [z, ho] at ho2
      cases ho2
      rw [hc'] at hc2
      exact absurd (Value.type.inj hc2) (by decide)
    have hae : e ≠ a := fun z => by
      obtain ⟨o2, ho2, hc2, _⟩ := p'
      rw [← z, he] at ho2
      cases ho2
      exact absurd (Value.type.inj hc2) (by decide)
    have W := GoesN.ofWalksT (elts := elts) (k := kk) (pos := tpos) (WalksT.enumerateD (A := X.A) (Draws.tuple (prog := X.prog) (w := X.w) (A := X.A.in1) (I.ok.hd hc) it a hai its.toArray) e hei (by simp [hei, hae]) (by simp))
    have hi : i < its.toArray.size := by
      have := (List.getElem?_eq_some_iff.mp hu).1
      simpa using this
    refine W.goes i s _ E hi ⟨⟨old, he⟩, hit, p'⟩ fun v h' tk hY st' hk htk => ?_
    obtain ⟨T, vals, rfl, hT0, ⟨t, y, hy, rfl⟩, hT⟩ := hY
    obtain ⟨⟨old', he'⟩, hit', _⟩ := st'
    have ey : y = u := by
      have h1 : its[i]? = some y := by simpa using hy
      rw [hu] at h1
      exact (Option.some.inj h1).symm
    subst ey
    have new : ObjOk X.prog X.w (upd H T (.tup [.int (i : Nat), x])) h' T (.tup [.int (i : Nat), x]) :=
      ⟨by show 2 ≤ sizeLine; decide, [.int i t, y], .cons ⟨_, rfl⟩ (.cons ru .nil), hT⟩
    have hn : H T = none := I.hok.fresh hT0
    have I1 : Inv X pins σ (upd H T (.tup [.int (i : Nat), x])) { s with heap := h', toks := tk } := I.turnedNew (ch := [e, it]) (fun b ob hb q => hk b ob hb q) hf hT0 new
    refine ⟨.ref T, _, I1, rfl, ⟨T, x, rfl, hn, rfl, fun ys hy => by rw [I.tuple_inj hy hq]; exact hx⟩, ⟨⟨old', by simpa using he'⟩, hit'⟩, fun b hb => ?_⟩
    have nb : b ≠ T := fun z => by
      have e' : b = e ∨ b = it := by simpa using hb
      rcases e' with q | q
      · rw [← z, q] at hT0
        exact absurd (Heap.lt_size he) (Nat.not_lt.mpr hT0)
      · obtain ⟨o, ho, _⟩ := hit
        rw [← z, q] at hT0
        exact absurd (Heap.lt_size ho) (Nat.not_lt.mpr hT0)
    rw [upd_ne nb]
    exact (hf b hb).1
  done := by
    intro X hP hw hK hc i pins s σ H E I hf st hg
    subst hP hw hK
    obtain ⟨⟨old, he⟩, hit⟩ := st
    obtain ⟨xs, hq, hx⟩ := hg
    obtain ⟨its, rv, p, hz⟩ := I.tuple hq
    have p' : s.heap.IsTuple a its.toArray := p
    have hei : e ≠ it := fun z => by
      obtain ⟨o, ho, hc', _⟩ := hit
      rw [← z, he] at ho
      cases ho
      exact absurd (Value.type.inj hc') (by decide)
    have hai : a ≠ it := fun z => by
      obtain ⟨o, ho, hc', _⟩ := hit
      obtain ⟨o2, ho2, hc2, _⟩ := p'
      rw [z, ho] at ho2
      cases ho2
      rw [hc'] at hc2
      exact absurd (Value.type.inj hc2) (by decide)
    have hae : e ≠ a := fun z => by
      obtain ⟨o2, ho2, hc2, _⟩ := p'
      rw [← z, he] at ho2
      cases ho2
      exact absurd (Value.type.inj hc2) (by decide)
    have hn : i = its.toArray.size := by rw [List.size_toArray, ← rv.length]; exact hx.symm
    subst hn
    obtain ⟨f0, f1, f2, f3, f4, f5⟩ := hf it (by simp)
    exact wpAny_pyNext_enum_endD (Draws.tuple (prog := X.prog) (w := X.w) (A := X.A.in1) (I.ok.hd hc) it a hai its.toArray) he ⟨hit, p'⟩ fun h' eb => ⟨rfl, I.turned (t' := s.toks) (fun b o hb q => eb b o hb q) f0 f1 f3 f4 f5⟩
  self := fun A i s Q E st h => let ⟨⟨_, he⟩, _⟩ := st; wpAny_pyIter_enum he h
def iEnumT (K : PySem.W.Frag) (ta : TA) : TI := fun σ H R => ta σ H fun vs H1 => ∃ a xs, vs = [.ref a] ∧ ((SqL K H1 a xs ∧ R (Ite K a) H1) ∨ (SqT K H1 a xs ∧ R (Itet K a) H1))
/-- enumerate(x), x a list or a tuple -/
theorem pi_enumT {X : Cx} {e : Expr} {ta : TA} {p pos tpos : Pos} {elts : List Expr} {kk : Nat} (hg : Gl X "enumerate") (hm : X.mg "enumerate" = none) (ha : PA X [e] ta) (hs : starEach [e] X.env = [(false, eval e X.env)] := by rfl) :
    PI X (.Tuple elts kk tpos) (.Call (.Name "enumerate" p) [e] [] pos) (iEnumT X.K ta) := by
  refine ⟨fun pins s σ H R I h => ?_⟩
  refine Call_ (ld_blt I hg hm boot_enumerate (PyProof.Rows.callWith_type1 (thn (ha.run pos pins s σ H _ I h) fun us s1 ⟨vs, H1, I1, r1, q1⟩ => ?_) hs rfl))
  obtain ⟨a, xs, ex, q1⟩ := q1
  subst ex
  cases r1 with
  | cons r rr =>
    cases rr
    cases r
    have hfp : ∀ b ∈ [s1.heap.objs.size + 1, s1.heap.objs.size], s1.heap.objs.size ≤ b := fun b hb => by
      have e' : b = s1.heap.objs.size + 1 ∨ b = s1.heap.objs.size := by simpa using hb
      rcases e' with z | z
      · rw [z]; exact Nat.le_add_right _ _
      · rw [z]; exact Nat.le_refl _
    rcases q1 with ⟨hq, q⟩ | ⟨hq, q⟩
    · obtain ⟨its, rv, p', hz⟩ := I1.list hq
      refine call_enumerate_list p'.isList fun h' he hit hsz hk => wpAny_pyIter_enum he ?_
      have I2 : Inv X pins σ H1 { s1 with heap := h' } := I1.kept (t' := s1.toks) hk
      exact ⟨s1.heap.objs.size + 1, [s1.heap.objs.size + 1, s1.heap.objs.size], _, _, H1, rfl, I2, turn_enum a (s1.heap.objs.size + 1) s1.heap.objs.size, ⟨⟨.none, he⟩, hit, Nat.succ_ne_self _⟩, fun b hb => I1.fpOk (hfp b hb) (I1.hok.fresh (hfp b hb)), q⟩
    · obtain ⟨its, rv, p', hz⟩ := I1.tuple hq
      refine UL_enum_begins1 (begins_tuple a its.toArray) p' fun h' he hit hsz hk => wpAny_pyIter_enum he ?_
      have I2 : Inv X pins σ H1 { s1 with heap := h' } := I1.kept (t' := s1.toks) hk
      exact ⟨s1.heap.objs.size + 1, [s1.heap.objs.size + 1, s1.heap.objs.size], _, _, H1, rfl, I2, turn_enumT a (s1.heap.objs.size + 1) s1.heap.objs.size, ⟨⟨.none, he⟩, ⟨_, hit, rfl, rfl⟩⟩, fun b hb => I1.fpOk (hfp b hb) (I1.hok.fresh (hfp b hb)), q⟩
/-- the walk of such a loop: the pairs are new -/
theorem for_enumT {K : PySem.W.Frag} {a : Addr} {xs : List V} {g : TG} {tb : TS} {D : Ends} {σ : L2.St} {H : Hp} (Pv : Nat → L2.St → Hp → Prop) (h0 : Pv 0 σ H) (hl : ∀ i σ H, i ≤ xs.length → Pv i σ H → SqT K H a xs)
    (hs : ∀ i x σ H T, xs[i]? = some x → Pv i σ H → H T = none → g (.ref T) σ (upd H T (.tup [.int (i : Nat), x])) fun σ2 H2 => tb { D with nx := Pv (i + 1), ct := Pv (i + 1), bk := D.nx } σ2 H2) (hd : ∀ σ H, Pv xs.length σ H → D.nx σ H) :
    ∃ W : Nat → Nat → L2.St → Hp → Prop, (∃ m, W 0 m σ H) ∧ ∀ i m σ H, W i m σ H →
      ((Itet K a).stop i H ∧ D.nx σ H) ∨ ((Itet K a).go i H ∧ ∃ N : L2.St → Hp → Prop, (∀ σ' H', N σ' H' → ∃ m', m' < m ∧ W (i + 1) m' σ' H') ∧ ∀ x H', (Itet K a).yld i H x H' → g x σ H' fun σ2 H2 => tb { D with nx := N, ct := N, bk := D.nx } σ2 H2) := by
  refine ⟨fun i m σ H => m = xs.length - i ∧ i ≤ xs.length ∧ Pv i σ H, ⟨xs.length, by simp, Nat.zero_le _, h0⟩, ?_⟩
  rintro i m σ H ⟨rfl, hi, p⟩
  have q := hl i σ H hi p
  by_cases hlt : i < xs.length
  · refine .inr ⟨⟨xs, xs[i], q, by simp [hlt]⟩, Pv (i + 1), fun σ' H' p' => ⟨xs.length - (i + 1), by omega, rfl, hlt, p'⟩, fun v H' y => ?_⟩
    obtain ⟨T, x, rfl, hT, rfl, hy⟩ := y
    exact hs i x σ H T (hy xs q) p hT
  · have e : i = xs.length := by omega
    subst e
    exact .inl ⟨⟨xs, q, rfl⟩, hd σ H p⟩
/-- the same over a list -/
theorem for_enumL {K : PySem.W.Frag} {a : Addr} {xs : List V} {g : TG} {tb : TS} {D : Ends} {σ : L2.St} {H : Hp} (Pv : Nat → L2.St → Hp → Prop) (h0 : Pv 0 σ H) (hl : ∀ i σ H, i ≤ xs.length → Pv i σ H → SqL K H a xs)
    (hs : ∀ i x σ H T, xs[i]? = some x → Pv i σ H → H T = none → g (.ref T) σ (upd H T (.tup [.int (i : Nat), x])) fun σ2 H2 => tb { D with nx := Pv (i + 1), ct := Pv (i + 1), bk := D.nx } σ2 H2) (hd : ∀ σ H, Pv xs.length σ H → D.nx σ H) :
    ∃ W : Nat → Nat → L2.St → Hp → Prop, (∃ m, W 0 m σ H) ∧ ∀ i m σ H, W i m σ H →
      ((Ite K a).stop i H ∧ D.nx σ H) ∨ ((Ite K a).go i H ∧ ∃ N : L2.St → Hp → Prop, (∀ σ' H', N σ' H' → ∃ m', m' < m ∧ W (i + 1) m' σ' H') ∧ ∀ x H', (Ite K a).yld i H x H' → g x σ H' fun σ2 H2 => tb { D with nx := N, ct := N, bk := D.nx } σ2 H2) := by
  refine ⟨fun i m σ H => m = xs.length - i ∧ i ≤ xs.length ∧ Pv i σ H, ⟨xs.length, by simp, Nat.zero_le _, h0⟩, ?_⟩
  rintro i m σ H ⟨rfl, hi, p⟩
  have q := hl i σ H hi p
  by_cases hlt : i < xs.length
  · refine .inr ⟨⟨xs, xs[i], q, by simp [hlt]⟩, Pv (i + 1), fun σ' H' p' => ⟨xs.length - (i + 1), by omega, rfl, hlt, p'⟩, fun v H' y => ?_⟩
    obtain ⟨T, x, rfl, hT, rfl, hy⟩ := y
    exact hs i x σ H T (hy xs q) p hT
  · have e : i = xs.length := by omega
    subst e
    exact .inl ⟨⟨xs, q, Nat.le_refl _⟩, hd σ H p⟩
end UL
set_option Elab.async false
set_option linter.all false
set_option maxRecDepth 100000
set_option maxHeartbeats 4000000
namespace UL
open PySem PySem.Spec PyProof.Rows L2
open PySem.W (Looks Frag findIn clsIn InstAt)
/-! ### own + -/
section
variable {prog : Program} {w : World} {A : Around} {E : Value → Shared → Prop} {s : Shared} {K : Frag} {x C D f : Addr} {ox : Obj} {od : Option Obj}
/-- a class of its own that says nothing of the operator -/
theorem fillsNo {M : Model} {h : Heap} {nm : String} {cd : ClassData} (X : K.In h) (hc : clsIn K C = some cd) (hm : cd.mro = [.ref C, .type "object"]) (h1 : findIn K (.ref C) (PySem.dunder nm) = some none) (h2 : findIn K (.ref C) (dunderR nm) = some none)
    (o1 : findIn K (.type "object") (PySem.dunder nm) = some none) (o2 : findIn K (.type "object") (dunderR nm) = some none) : Looks M h (fillsNumberSlot (.ref C) nm) false := by
  intro A Q E s k q
  unfold fillsNumberSlot
  refine wpAny_bind ((PySem.W.looks_clsIn X hc).andThen (f := fun cd => pure cd.mro) .now A _ E s k ?_)
  rw [hm, List.anyM_cons]
  refine wpAny_bind ?_
  show wpAny M A (List.anyM _ [PySem.dunder nm, dunderR nm]) _ _ _
  rw [List.anyM_cons]
  refine wpAny_bind (wpAny_bind (PySem.W.looks_findIn X h1 A _ E s k ?_))
  dsimp only
  refine wpAny_pure ?_
  rw [if_neg Bool.false_ne_true, List.anyM_cons]
  refine wpAny_bind (wpAny_bind (PySem.W.looks_findIn X h2 A _ E s k ?_))
  dsimp only
  refine wpAny_pure ?_
  rw [if_neg Bool.false_ne_true]
  show wpAny M A (pure false) _ _ _
  refine wpAny_pure ?_
  rw [if_neg Bool.false_ne_true, List.anyM_cons]
  refine wpAny_bind ?_
  refine wpAny_bind (PySem.W.looks_findIn X o1 A _ E s k ?_)
  refine wpAny_bind (PySem.W.looks_findIn X o2 A _ E s k ?_)
  refine wpAny_pure ?_
  show wpAny M A (if (false : Bool) = true then _ else _) _ _ _
  rw [if_neg Bool.false_ne_true]
  exact wpAny_pure q
theorem fillsI_no {M : Model} {h : Heap} {nm : String} {add : Bool} {cd : ClassData} (X : K.In h) (hc : clsIn K C = some cd) (hm : cd.mro = [.ref C, .type "object"]) (h1 : findIn K (.ref C) (dunderI nm) = some none)
    (o1 : findIn K (.type "object") (dunderI nm) = some none) : Looks M h (fillsInplaceSlot (.ref C) nm add) false := by
  intro A Q E s k q
  unfold fillsInplaceSlot
  refine wpAny_bind ((PySem.W.looks_clsIn X hc).andThen (f := fun cd => pure cd.mro) .now A _ E s k ?_)
  rw [hm, List.anyM_cons]
  refine wpAny_bind (wpAny_bind (PySem.W.looks_findIn X h1 A _ E s k ?_))
  dsimp only
  refine wpAny_pure ?_
  rw [if_neg Bool.false_ne_true, List.anyM_cons]
  refine wpAny_bind (wpAny_bind (PySem.W.looks_findIn X o1 A _ E s k ?_))
  dsimp only
  refine wpAny_pure ?_
  rw [if_neg Bool.false_ne_true]
  exact wpAny_pure q
/-- what the right one must be: of the same class, or of one without the operator -/
structure OpCls (K : Frag) (C : Addr) (nm : String) : Prop where
  sf : PySem.W.selfFirst K C = true
  no : ∃ cd, clsIn K C = some cd ∧ cd.mro = [.ref C, .type "object"]
structure NoOp (K : Frag) (D : Addr) (nm : String) : Prop where
  no : ∃ cd, clsIn K D = some cd ∧ cd.mro = [.ref D, .type "object"]
  h1 : findIn K (.ref D) (PySem.dunder nm) = some none
  h2 : findIn K (.ref D) (dunderR nm) = some none
  o1 : findIn K (.type "object") (PySem.dunder nm) = some none
  o2 : findIn K (.type "object") (dunderR nm) = some none
theorem bin1_own {nm : String} {b : Value} {tb : Value} {Q : Option Value → Shared → Prop} (X : K.In s.heap) (I : InstAt s.heap x ox C od) (hb : Looks (model prog w) s.heap (typeOf b) tb) (hc : PySem.W.selfFirst K C = true)
    (hr : tb = .ref C ∨ ∃ D, tb = .ref D ∧ NoOp K D nm) (hs : findIn K (.ref C) (PySem.dunder nm) = some (some (.ref f))) (hf : PySem.W.isFn K (.ref f) = true)
    (h : wpAny (model prog w) A (call (.ref f) [.ref x, b]) (PySem.W.CmpBack fun v => Q (some v)) E s) : wpAny (model prog w) A (binaryOp1 nm (.ref x) b) Q E s := by
  obtain ⟨cd, rest, hcd, hm⟩ := PySem.W.ksp_first hc
  have one := PySem.W.ksp_try X I hs hf h
  have hfill := PySem.W.fills_K (M := model prog w) (nm := nm) X hcd hm hs
  have fin : ∀ {v' : Value} {s' : Shared}, Q (some v') s' → wpAny (model prog w) A (pure (some v')) Q E s' := fun q => wpAny_pure q
  unfold binaryOp1
  refine wpAny_bind (I.type.here (wpAny_bind (hb.here (wpAny_bind (hfill.here ?_)))))
  have tail : wpAny (model prog w) A (tryMethod (.ref x) (PySem.dunder nm) b) (fun r s' => ∃ v, r = some v ∧ Q (some v) s') E s := one
  by_cases e : tb = .ref C
  · subst e
    simp only [beq_self_eq_true, if_true]
    refine wpAny_bind (wpAny_pure ?_)
    simp only [Bool.and_false, Bool.false_eq_true, if_false, Bool.false_and]
    refine wpAny_bind (wpAny_pure ?_)
    simp only [Bool.false_eq_true, if_false]
    refine wpAny_bind (m := tryMethod (.ref x) _ b) (wpAny_mono tail (fun r s' ⟨v, hv, q⟩ => ?_) fun _ _ e => e)
    subst hv
    exact wpAny_pure q
  · rcases hr with e' | ⟨D, rfl, nd⟩
    · exact absurd e' e
    · have hne : (Value.ref C == Value.ref D) = false := Bool.eq_false_iff.mpr fun q => e (beq_iff_eq.mp q).symm
      obtain ⟨cd', hc', hm'⟩ := nd.no
      simp only [hne, Bool.false_eq_true, if_false]
      refine wpAny_bind ((fillsNo X hc' hm' nd.h1 nd.h2 nd.o1 nd.o2).here ?_)
      simp only [Bool.and_false, Bool.false_eq_true, if_false, Bool.false_and]
      refine wpAny_bind (wpAny_pure ?_)
      simp only [Bool.false_eq_true, if_false]
      refine wpAny_bind (m := tryMethod (.ref x) _ b) (wpAny_mono tail (fun r s' ⟨v, hv, q⟩ => ?_) fun _ _ e => e)
      subst hv
      exact wpAny_pure q
theorem du_add : PySem.dunder "add" = ("__add__" : Str) := by decide +kernel
theorem di_add : dunderI "add" = ("__iadd__" : Str) := by decide +kernel
theorem binop_own {b tb : Value} {Q : Value → Shared → Prop} (X : K.In s.heap) (I : InstAt s.heap x ox C od) (hb : Looks (model prog w) s.heap (typeOf b) tb) (hc : PySem.W.selfFirst K C = true)
    (hr : tb = .ref C ∨ ∃ D, tb = .ref D ∧ NoOp K D "add") (hs : findIn K (.ref C) "__add__" = some (some (.ref f))) (hf : PySem.W.isFn K (.ref f) = true)
    (h : wpAny (model prog w) A (call (.ref f) [.ref x, b]) (PySem.W.CmpBack Q) E s) : wpAny (model prog w) A (binaryOp .Add (.ref x) b) Q E s := by
  unfold binaryOp
  refine wpAny_holding (wpAny_bind (bin1_own (nm := "add") X I hb hc hr (by rw [du_add]; exact hs) hf (wpAny_mono h (fun v s' z => ?_) fun _ _ e => e)))
  cases v <;> first | exact z.elim | exact wpAny_pure z
theorem inop_own {b tb : Value} {Q : Value → Shared → Prop} (X : K.In s.heap) (I : InstAt s.heap x ox C od) (hb : Looks (model prog w) s.heap (typeOf b) tb) (hc : PySem.W.selfFirst K C = true) {cd : ClassData} (hcd : clsIn K C = some cd) (hm : cd.mro = [.ref C, .type "object"])
    (hi : findIn K (.ref C) "__iadd__" = some none) (oi : findIn K (.type "object") "__iadd__" = some none)
    (hr : tb = .ref C ∨ ∃ D, tb = .ref D ∧ NoOp K D "add") (hs : findIn K (.ref C) "__add__" = some (some (.ref f))) (hf : PySem.W.isFn K (.ref f) = true)
    (h : wpAny (model prog w) A (call (.ref f) [.ref x, b]) (PySem.W.CmpBack Q) E s) : wpAny (model prog w) A (inplaceOp .Add (.ref x) b) Q E s := by
  unfold inplaceOp
  refine wpAny_holding (wpAny_bind (I.type.here (wpAny_bind ((fillsI_no (nm := "add") X hcd hm (by rw [di_add]; exact hi) (by rw [di_add]; exact oi)).here ?_))))
  simp only [Bool.false_eq_true, if_false]
  refine wpAny_bind (bin1_own (nm := "add") X I hb hc hr (by rw [du_add]; exact hs) hf (wpAny_mono h (fun v s' z => ?_) fun _ _ e => e))
  cases v <;> first | exact z.elim | exact wpAny_pure z
end
/-! ### as rules -/
section
variable {X : Cx} {CX : CXT} {C g : Addr} {n : Nat} {sp : Sp} {E : XK}
/-- x + y by the def at g -/
def rOpO (K : PySem.W.Frag) (C : Addr) (nm : String) (sp : Sp) (E : XK) : R2 := fun x y H Q => ∃ (a dx : Addr) (fs : List (Str × V)) (t : Value), x = .ref a ∧ H a = some (.ins C dx fs) ∧ TyX K H y t ∧ (t = .ref C ∨ ∃ D, t = .ref D ∧ NoOp K D nm) ∧ sp [x, y] H Q E
theorem op_addO (hc : PySem.W.selfFirst X.K C = true) (hs : PySem.W.findIn X.K (.ref C) "__add__" = some (some (.ref g))) (hf : PySem.W.isFn X.K (.ref g) = true) (F : FnR X.prog X.w X.K X.mg X.base CX n g sp) (hr : Room n X.A) (hx : Passes CX X E) :
    OpR X (binaryOp .Add) (rOpO X.K C "add" sp E) := by
  intro pins s σ H x y v u Q I rx ry h
  obtain ⟨a, dx, fs, t, rfl, ha, ty, hn, q⟩ := h
  cases (show v = Value.ref a from rx)
  obtain ⟨mA, O, _⟩ := ins_get I.hok ha
  obtain ⟨od, J, _⟩ := O.look
  obtain ⟨Pk, Z, pk, _⟩ := kit_of I ry ty
  refine binop_own I.kIn J (Z.ty _ _ I.kIn pk) hc hn hs hf ?_
  refine wpAny_mono (wpAny_call (run_fnR (us := [.ref a, u]) (vs := [.ref a, y]) F hr hx I (.cons rfl (.cons ry .nil)) q)) (fun r s' z => ?_) fun _ _ e => e
  obtain ⟨z', H', I', rz, qz⟩ := z
  exact SlX.cmpback rz ⟨z', H', I', rz, qz⟩
theorem iop_addO (hc : PySem.W.selfFirst X.K C = true) (ho : ∃ cd, clsIn X.K C = some cd ∧ cd.mro = [.ref C, .type "object"]) (hi : findIn X.K (.ref C) "__iadd__" = some none) (oi : findIn X.K (.type "object") "__iadd__" = some none)
    (hs : PySem.W.findIn X.K (.ref C) "__add__" = some (some (.ref g))) (hf : PySem.W.isFn X.K (.ref g) = true) (F : FnR X.prog X.w X.K X.mg X.base CX n g sp) (hr : Room n X.A) (hx : Passes CX X E) :
    OpR X (inplaceOp .Add) (rOpO X.K C "add" sp E) := by
  intro pins s σ H x y v u Q I rx ry h
  obtain ⟨a, dx, fs, t, rfl, ha, ty, hn, q⟩ := h
  cases (show v = Value.ref a from rx)
  obtain ⟨cd, hcd, hm⟩ := ho
  obtain ⟨mA, O, _⟩ := ins_get I.hok ha
  obtain ⟨od, J, _⟩ := O.look
  obtain ⟨Pk, Z, pk, _⟩ := kit_of I ry ty
  refine inop_own I.kIn J (Z.ty _ _ I.kIn pk) hc hcd hm hi oi hn hs hf ?_
  refine wpAny_mono (wpAny_call (run_fnR (us := [.ref a, u]) (vs := [.ref a, y]) F hr hx I (.cons rfl (.cons ry .nil)) q)) (fun r s' z => ?_) fun _ _ e => e
  obtain ⟨z', H', I', rz, qz⟩ := z
  exact SlX.cmpback rz ⟨z', H', I', rz, qz⟩
/-- len(x) by the def at g -/
def rLenI (C : Addr) (sp : Sp) (E : XK) : List V → Hp → VK → Prop := fun xs H Q => ∃ (a dx : Addr) (fs : List (Str × V)), xs = [.ref a] ∧ H a = some (.ins C dx fs) ∧ sp [.ref a] H (fun z H' => ∃ i : Int, z = .int i ∧ 0 ≤ i ∧ i < 2 ^ 63 ∧ Q z H') E
theorem call_lenI (hs : PySem.W.findIn X.K (.ref C) "__len__" = some (some (.ref g))) (hf : PySem.W.isFn X.K (.ref g) = true) (F : FnR X.prog X.w X.K X.mg X.base CX n g sp) (hr : Room (n + 1) X.A) (hx : Passes CX X E) :
    CallR X (.builtin "len") (rLenI C sp E) := by
  intro pins s σ H xs us Q I r h
  obtain ⟨a, dx, fs, rfl, ha, q⟩ := h
  obtain ⟨u, rfl, ru⟩ := vals1 r
  cases (show u = Value.ref a from ru)
  obtain ⟨mA, O, _⟩ := ins_get I.hok ha
  obtain ⟨od, J, _⟩ := O.look
  obtain ⟨m, hF⟩ := I.fr
  refine PySem.W.len_K hF I.ok.mod.kin J hs hf (wpAny_mono (wpAny_call (SlX.run_at (us := [.ref a]) (ws := [.ref a]) F hr.in1 I.env0.in1 hx I (.cons rfl .nil) q)) (fun w s' z => ?_) fun _ _ e => e)
  obtain ⟨z', H', I', rz, i, ei, h0, h1, qz⟩ := z
  subst ei
  obtain ⟨t, rfl⟩ := (show ∃ t, w = Value.int i t from rz)
  exact ⟨⟨h0, h1⟩, .int i, H', I'.tok _, ⟨_, rfl⟩, qz⟩
end
end UL
set_option Elab.async false
set_option linter.all false
set_option maxRecDepth 100000
set_option maxHeartbeats 4000000
namespace UL
open PySem PySem.Spec PyProof.Rows L2
/-! ### an instance called with keywords -/
theorem callO_ofK {M : Model} {A : Around} {E : Value → Shared → Prop} {s : Shared} {a : Addr} {pos : Pos} {Q : Value → Shared → Prop} {args : List (Bool × Sem Value)} {keywords : List (Option Str × Sem Value)} (hplain : (args.any (·.1) || keywords.any (·.1.isNone)) = false)
    (h : wpAny M A (evalArgs (.ref a) true args keywords) (fun z s₁ => (∃ C ox od, PySem.W.InstAt s₁.heap a ox C od ∧ ox.data = .plain) ∧ wpAny M A (call (.ref a) ([] ++ z.pos) z.kw) Q E s₁) E s) : wpAny M A (callWith pos (.ref a) [] args keywords) Q E s := by
  unfold callWith
  refine wpAny_bind (wpAny_holding (wpAny_mono h (fun z s₁ h₁ => wpAny_bind (wpAny_standAt ?_)) fun _ _ y => y))
  obtain ⟨⟨C, ox, od, J, hd⟩, h₁⟩ := h₁
  have L := PySem.W.kco_keeper (M := M) J hd
  simp only [hplain]
  refine wpAny_bind (L.here ?_)
  have tail : ∀ {t : Sem Value}, wpAny M A t Q E s₁ → wpAny M A (t >>= fun r => holding [r] point >>= fun _ => pure r) Q E s₁ :=
    fun ht => wpAny_bind (wpAny_mono ht (fun r s₂ hr => wpAny_bind (wpAny_holding (wpAny_point (wpAny_pure hr)))) fun _ _ y => y)
  exact tail (wpAny_operateT h₁)
section
variable {X : Cx} {CX : CXT} {C g : Addr} {k : Nat} {fd : FuncData} {ps ks : List Str} {gg : List Value → List Value → List Value} {gV : List V → List V → List V} {sp : Sp} {E : XK} {fe : Expr} {kws : List Keyword} {pos : Pos} {tf : TE} {tk : TA}
def tCallOK (C : Addr) (n : Nat) (gV : List V → List V → List V) (sp : Sp) (E : XK) (tf : TE) (tk : TA) : TE := fun σ H Q => tf σ H fun y H1 => ∃ a, y = V.ref a ∧ tk σ H1 fun zs H2 => (∃ dx fs, H2 a = some (.ins C dx fs)) ∧ zs.length = n ∧ sp (gV [V.ref a] zs) H2 Q E
theorem pe_callOK (hf : PE X fe tf) (c : StX.CallO X.K C g) (F : FnOk X.prog X.w X.K X.mg X.base CX k g fd ps sp) (hb : KBn X.K fd ps 1 ks gg gV) (hr : Room k X.A) (hx : Passes CX X E) (hkw : PK X kws tk)
    (hall : (backToKw pos (keywordEach kws X.env)).all (·.1.isSome) = true := by rfl) (hks : (backToKw pos (keywordEach kws X.env)).filterMap (·.1) = ks := by rfl)
    (ht : eval (.Call fe [] kws pos) X.env = (do callWith pos (← eval fe X.env) [] (backTo pos (starEach [] X.env)) (backToKw pos (keywordEach kws X.env))) := by rfl)
    (hpl : ((backTo pos (starEach [] X.env)).any (·.1) || (backToKw pos (keywordEach kws X.env)).any (·.1.isNone)) = false := by rfl) : PE X (.Call fe [] kws pos) (tCallOK C ks.length gV sp E tf tk) := by
  refine ⟨fun pins s σ H Q I h => ?_⟩
  rw [ht]
  refine wpAny_bind (thn (hf.run pins s σ H _ I h) fun u s1 ⟨y, H1, I1, ry, a, ey, q⟩ => ?_)
  subst ey
  obtain rfl : u = Value.ref a := ry
  refine callO_ofK hpl (evalArgs_kw2_nil hall (thn (hkw.run pos pins s1 σ H1 _ I1 q) fun ws s2 ⟨zs, H2, I2, rz, ⟨dx, fs, hi⟩, l, q2⟩ => ?_))
  obtain ⟨ox, od, J, hd⟩ := StX.insC_at I2 (.inr ⟨dx, fs, hi⟩)
  refine ⟨⟨C, ox, od, J, hd⟩, wpAny_call (PySem.W.kco_code I2.kIn J hd c.at_ c.fn c.fi ?_)⟩
  rw [hks]
  have r1 : Vals [V.ref a] [Value.ref a] := .cons rfl .nil
  have r2 := hb.rel r1 rz
  refine codeAny_mono (F.run X.A X.stack s2 H2 ⟨[.ref a], ks.zip ws⟩ (gg [.ref a] ws) (gV [V.ref a] zs) Q E hr I2.env0 (hb.to s2 [.ref a] ws I2.kIn rfl (rz.length.symm.trans l)) r2 q2) fun r s' hq => ?_
  cases r with
  | error e => exact hx pins σ H2 s2 e s' I2 hq
  | ok fl =>
    cases fl with
    | ret u => exact I2.after hq
    | next => exact False.elim hq
    | brk => exact False.elim hq
    | cont => exact False.elim hq
end
end UL
set_option Elab.async false
set_option linter.all false
set_option maxRecDepth 100000
set_option maxHeartbeats 4000000
namespace GQ
open PySem PySem.SeqAt
open AutoSeq1 (wpAny_loadPart')
open MeetsSeq MeetsSeq2 MeetsSeq3 SeqRoads2
section
variable {prog : Program} {w : World} {A : Around} {R : Result → Shared → Prop} {E : Value → Shared → Prop} {s : Shared}
/-- two tuples of any lengths; the items' == may make objects -/
theorem tuple_eqB (l b : Addr) (items items2 : Array Value) (n n2 : Nat) (dd dd2 : Option Addr) (sl sl2 : Array (Option Value)) (e : Nat → Bool) (I : Shared → Prop)
    (turn : ∀ i (h1 : i < items.size) (h2 : i < items2.size) s, I s → wpAny (model prog w) A.in1 (eqBool items[i] items2[i]) (fun r s' => r = e i ∧ I s') (fun e s' => R (.error e) s') s)
    (fin : ∀ s, I s → R (.ok (.ret (.bool ((List.range (min items.size items2.size)).all e && items.size == items2.size)))) s) {s : Shared} (hl1 : s.heap.get? l = some { cls := .type "tuple", dict := dd, data := .seq items n, slots := sl }) (hb1 : s.heap.get? b = some { cls := .type "tuple", dict := dd2, data := .seq items2 n2, slots := sl2 }) (h : I s) :
    wpAny (model prog w) A.in1 (Builtin.«tuple.__eq__» ⟨[.ref l, .ref b], []⟩) (FinOf prog w A R) (fun e s' => R (.error e) s') s := by
  have f2 := AutoSeq1.sub_tuple_tuple
  have hZ : (items.toList.zip items2.toList).length = min items.size items2.size := by simp
  have h0 := h
  obtain ⟨hp, g, d, tk, os⟩ := s
  wp_walk using wpAny_loadPart' hl1, wpAny_loadPart' hb1, wpAny_forIn_list _ (fun rest b s' => b.1 = none ∧ I s' ∧ ∃ i, rest = (items.toList.zip items2.toList).drop i ∧
      (List.range (min items.size items2.size)).all e = ((List.range (min items.size items2.size)).drop i).all e) _
  case turn =>
    rintro ⟨y, x⟩ rest b s' ⟨hb', hI, i, hz, hR⟩
    have hlt : i < (items.toList.zip items2.toList).length := by
      rcases Nat.lt_or_ge i (items.toList.zip items2.toList).length with h' | h'
      · exact h'
      · rw [List.drop_of_length_le h'] at hz; cases hz
    have hm : i < min items.size items2.size := hZ ▸ hlt
    have h1 : i < items.size := Nat.lt_of_lt_of_le hm (Nat.min_le_left _ _)
    have h2 : i < items2.size := Nat.lt_of_lt_of_le hm (Nat.min_le_right _ _)
    rw [List.drop_eq_getElem_cons hlt] at hz
    injection hz with hyx hrest
    have hy : y = items[i] := by have := congrArg Prod.fst hyx; simpa using this
    have hx : x = items2[i] := by have := congrArg Prod.snd hyx; simpa using this
    subst hy hx
    have hd : (List.range (min items.size items2.size)).drop i = i :: (List.range (min items.size items2.size)).drop (i + 1) := by simp [List.drop_eq_getElem_cons, hm]
    rw [hd, List.all_cons] at hR
    refine wpAny_bind (wpAny_mono (turn i h1 h2 s' hI) (fun r s2 q2 => ?_) fun _ _ x => x)
    obtain ⟨hr, q2⟩ := q2
    subst hr
    cases hy : e i with
    | true =>
      rw [hy] at hR
      wp_walk
      exact ⟨rfl, q2, i + 1, hrest, by simpa using hR⟩
    | false =>
      rw [hy] at hR
      have := fin s2 q2
      rw [hR] at this
      wp_walk
      simpa using this
  case fin =>
    rintro ⟨b1, b2⟩ s' ⟨hb', hI, i, hz, hR⟩
    simp only at hb'
    subst hb'
    have hge : min items.size items2.size ≤ i := by
      rcases Nat.lt_or_ge i (items.toList.zip items2.toList).length with h' | h'
      · rw [List.drop_eq_getElem_cons h'] at hz; cases hz
      · exact hZ ▸ h'
    rw [List.drop_of_length_le (by simpa using hge)] at hR
    have := fin s' hI
    rw [hR] at this
    wp_walk
    simpa [Builtin.Tuple.tupleCompareSizes] using this
  case h =>
    exact ⟨rfl, h0, 0, rfl, by simp⟩
theorem rc_tupB {l b : Addr} {items items2 : Array Value} {Q : Value → Shared → Prop} (e : Nat → Bool) (hu : A.units < cLine) (I : Shared → Prop)
    (hl : s.heap.IsTuple l items) (hb : s.heap.IsTuple b items2)
    (turn : ∀ i (h1 : i < items.size) (h2 : i < items2.size) s, I s → wpAny (model prog w) A.in1 (eqBool items[i] items2[i]) (fun r s' => r = e i ∧ I s') E s)
    (fin : ∀ s, I s → Q (.bool ((List.range (min items.size items2.size)).all e && items.size == items2.size)) s) (h : I s) : wpAny (model prog w) A (richCompare .Eq (.ref l) (.ref b)) Q E s := by
  obtain ⟨⟨cls, dd, data, sl⟩, ho, hc, n, hd⟩ := id hl
  obtain ⟨⟨cls2, dd2, data2, sl2⟩, ho2, hc2, n2, hd2⟩ := id hb
  simp only at hc hd hc2 hd2
  subst hc hd hc2 hd2
  refine wpAny_richCompare_same_room (op := .Eq) ⟨_, ho, rfl⟩ ⟨_, ho2, rfl⟩ F.slot_tuple_eq (call_here F.slot_tuple_eq ⟨_, ho, rfl⟩ F.entry_tuple_eq (F.args_tuple_eq_2 _ _) ?_) hu
  exact tuple_eqB (R := wants (fun v s' => v ≠ .notImplemented ∧ Q v s') E) l b items items2 n n2 dd dd2 sl sl2 e I turn (fun s' q => ⟨(fun x => nomatch x), fin s' q⟩) ho ho2 h
end
end GQ
namespace UL
open PySem PySem.Spec PyProof.Rows L2
/-- how two values compare, by the abstract heap -/
abbrev Eqb := V → V → Bool → Hp → Prop
def MonB (D : Eqb) : Prop := ∀ x y r H H', Ext H H' → D x y r H → D x y r H'
def EqB (X : Cx) (n : Nat) (D : Eqb) : Prop :=
  ∀ (A : Around) (pins : List (Addr × Obj)) (s : Shared) (σ : L2.St) (H : Hp) (x y : V) (r : Bool) (u v : Value), Sub X n A → Inv X pins σ H s → RelV x u → RelV y v → D x y r H →
    wpAny (model X.prog X.w) A (eqBool u v) (fun r' s' => r' = r ∧ ∃ H', Inv X pins σ H' s' ∧ Ext H H') X.xe s
def RcB (X : Cx) (n : Nat) (D : Eqb) : Prop :=
  ∀ (A : Around) (pins : List (Addr × Obj)) (s : Shared) (σ : L2.St) (H : Hp) (x y : V) (r : Bool) (u v : Value), Sub X n A → Inv X pins σ H s → RelV x u → RelV y v → D x y r H →
    wpAny (model X.prog X.w) A (richCompare .Eq u v) (fun r' s' => r' = .bool r ∧ ∃ H', Inv X pins σ H' s' ∧ Ext H H') X.xe s
section
variable {X : Cx} {n m : Nat} {D : Eqb}
def DInsB (C : Addr) (R : Addr → Addr → Bool → Hp → Prop) : Eqb := fun x y r H => ∃ a b dx dy fs gs, x = .ref a ∧ y = .ref b ∧ H a = some (.ins C dx fs) ∧ H b = some (.ins C dy gs) ∧ R a b r H
def spEqB (R : Addr → Addr → Bool → Hp → Prop) : Sp := fun vs H Q _ => ∃ a b r, vs = [.ref a, .ref b] ∧ R a b r H ∧ ∀ H', Ext H H' → Q (.bl r) H'
theorem rcB_ins {CX : CXT} {C f : Addr} {R : Addr → Addr → Bool → Hp → Prop} {E : XK} (F : FnR X.prog X.w X.K X.mg X.base CX n f (spEqB R))
    (hs : PySem.W.findIn X.K (.ref C) "__eq__" = some (some (.ref f))) (hf : PySem.W.isFn X.K (.ref f) = true) (hx : Passes CX X E) : RcB X n (DInsB C R) := by
  intro A pins s σ H x y r u v sb I rx ry d
  obtain ⟨a, b, dx, dy, fs, gs, rfl, rfl, ha, hb', hr⟩ := d
  cases rx
  cases ry
  obtain ⟨mA, J, _⟩ := ins_get I.hok ha
  obtain ⟨mB, J', _⟩ := ins_get I.hok hb'
  obtain ⟨od, J, _⟩ := J.look
  obtain ⟨od', J', _⟩ := J'.look
  obtain ⟨m, hF⟩ := I.fr
  refine PySem.W.cmp_K (op := .Eq) (tb := .ref C) sb.room.units0 hF I.ok.mod.kin J J'.type (by simp [PySem.W.notFirst]) hs hf ?_
  have hsp : spEqB R [.ref a, .ref b] H (fun v H' => v = .bl r ∧ Ext H H') E := ⟨a, b, r, rfl, hr, fun H' e => ⟨rfl, e⟩⟩
  have e0 : Env0 X.prog X.w X.K X.mg X.base A X.stack s H := by
    have e := I.env0
    exact ⟨by rw [sb.fr]; exact e.frames, e.mod, e.bs, e.bsz, e.funs, e.frf, e.hok, e.bare⟩
  have r2 : Vals [V.ref a, V.ref b] [Value.ref a, Value.ref b] := .cons rfl (.cons rfl .nil)
  refine wpAny_call (codeAny_mono (F A X.stack s H [.ref a, .ref b] [.ref a, .ref b] _ E sb.room e0 r2 hsp) fun r' s' hq => ?_)
  cases r' with
  | error e => exact hx pins σ H s e s' I hq
  | ok fl =>
    cases fl with
    | ret w =>
      obtain ⟨z, H', I', rz, ez, ex⟩ := I.after hq
      subst ez
      cases rz
      exact ⟨rfl, H', I', ex⟩
    | next => exact False.elim hq
    | brk => exact False.elim hq
    | cont => exact False.elim hq
theorem RcB.eqB (h : RcB X n D) (hr : ∀ x y r H, D x y r H → ∃ a b, x = .ref a ∧ y = .ref b ∧ (a = b → r = true)) : EqB X n D := by
  intro A pins s σ H x y r u v sb I rx ry d
  obtain ⟨a, b, rfl, rfl, hs⟩ := hr _ _ _ _ d
  cases rx
  cases ry
  by_cases hab : a = b
  · rw [hs hab]
    subst hab
    exact SeqAt.EqAt.same (A := A) (s := s) (.ref a) X.prog X.w X.xe _ ⟨rfl, H, I, Ext.rfl'⟩
  · refine GQ.eqBool_refG hab (wpAny_mono (h A pins s σ H (.ref a) (.ref b) r _ _ sb I rfl rfl d) (fun r' s' q => ?_) fun _ _ x => x)
    obtain ⟨hr', q⟩ := q
    exact ⟨r, hr', rfl, q⟩
/-- two tuples: the i-th items compare as e says -/
def DTupB (K : PySem.W.Frag) (D : Eqb) : Eqb := fun x y r H => ∃ a b xs ys, ∃ e : Nat → Bool, x = .ref a ∧ y = .ref b ∧ SqT K H a xs ∧ SqT K H b ys ∧ (∀ (i : Nat) x y, xs[i]? = some x → ys[i]? = some y → D x y (e i) H) ∧
  r = ((List.range (min xs.length ys.length)).all e && xs.length == ys.length)
theorem rcB_tup (hD : MonB D) (h : EqB X n D) : RcB X (n + 1) (DTupB X.K D) := by
  intro A pins s σ H x y r u v sb I rx ry d
  obtain ⟨a, b, xs, ys, e, rfl, rfl, ha, hb, p, rfl⟩ := d
  cases rx
  cases ry
  obtain ⟨its, r, e1, z⟩ := I.tuple ha
  obtain ⟨its2, r2, e2, z2⟩ := I.tuple hb
  refine GQ.rc_tupB e sb.room.units0 (fun s' => LoopI X pins σ H s') e1 e2 (fun i h1 h2 s' l => ?_) (fun s' q => ⟨?_, q⟩) ⟨H, I, Ext.rfl'⟩
  · obtain ⟨H1, I1, x1⟩ := l
    have g1 : its[i]? = some its.toArray[i] := by
      have h1' : i < its.length := by simpa using h1
      rw [List.getElem?_eq_getElem h1'] <;> simp
    have g2 : its2[i]? = some its2.toArray[i] := by
      have h2' : i < its2.length := by simpa using h2
      rw [List.getElem?_eq_getElem h2'] <;> simp
    have k1 : i < xs.length := by rw [r.length]; simpa using h1
    have k2 : i < ys.length := by rw [r2.length]; simpa using h2
    obtain ⟨u, hu, ru⟩ := r.get (List.getElem?_eq_getElem k1)
    obtain ⟨v, hv, rv⟩ := r2.get (List.getElem?_eq_getElem k2)
    rw [g1] at hu
    rw [g2] at hv
    rw [Option.some.inj hu, Option.some.inj hv]
    refine wpAny_mono (h A.in1 pins s' σ H1 _ _ (e i) u v sb.in1 I1 ru rv (hD _ _ _ _ _ x1 (p i _ _ (List.getElem?_eq_getElem k1) (List.getElem?_eq_getElem k2)))) (fun r s2 q => ?_) fun _ _ x => x
    obtain ⟨hr, H2, I2, x2⟩ := q
    exact ⟨hr, H2, I2, x1.trans x2⟩
  · rw [List.size_toArray, List.size_toArray, ← r.length, ← r2.length]
theorem op_eqB (h : RcB X n D) (hr : Room n X.A) : OpR X (compareOp .Eq) (fun x y H Q => ∃ r, D x y r H ∧ ∀ H', Ext H H' → Q (.bl r) H') := by
  intro pins s σ H x y v u Q I rx ry hq
  obtain ⟨r, d, q⟩ := hq
  show wpAny (model X.prog X.w) X.A (richCompare .Eq v u) (EP X pins σ Q) X.xe s
  refine wpAny_mono (h X.A pins s σ H x y r v u ⟨hr, rfl⟩ I rx ry d) (fun r' s' z => ?_) fun _ _ x => x
  obtain ⟨hr', H', I', e⟩ := z
  subst hr'
  exact ⟨.bl r, H', I', rfl, q H' e⟩
end
end UL
set_option Elab.async false
set_option linter.all false
set_option maxRecDepth 100000
set_option maxHeartbeats 4000000
namespace UL
open PySem PySem.Spec PyProof.Rows L2
section
variable (P : Program) (w : World) (K : PySem.W.Frag) (mg : Str → Option Value) (base : Heap)
/-- the class x, at C, made by a promise of positional values -/
def MakR (k : Nat) (x : Str) (C : Addr) (sp : Sp) : Prop := ∃ f, FnR P w K mg base CX0 k f sp ∧ Mk K C f ∧ mg x = some (.ref C)
/-- an instance of the class at C called -/
def CalO (k : Nat) (C : Addr) (sp : Sp) : Prop := ∃ g, FnR P w K mg base CX0 k g sp ∧ StX.CallO K C g
def CalOK (k : Nat) (C : Addr) (ks : List Str) (gV : List V → List V → List V) (sp : Sp) : Prop := ∃ g fd ps gg, FnOk P w K mg base CX0 k g fd ps sp ∧ StX.CallO K C g ∧ KBn K fd ps 1 ks gg gV
end
section
variable {X : Cx} {k j : Nat} {x : Str} {C : Addr} {sp : Sp} {e fe : Expr} {es : List Expr} {kws : List Keyword} {ks : List Str} {gV : List V → List V → List V} {t tk : TA} {te tf : TE} {p pos sp_ : Pos}
theorem pe_nR (c : MakR X.prog X.w X.K X.mg X.base k x C sp) (hr : Room j X.A) (hk : k + 1 ≤ j) (hg : Gl X x) (ha : PA X (e :: es) t) (hdb : (x == ("__debug__" : Str)) = false := by decide)
    (he : starEach (e :: es) X.env = (false, eval e X.env) :: starEach es X.env := by rfl) (hpl : (backTo pos (starEach es X.env)).any (·.1) = false := by rfl) : PE X (.Call (.Name x p) (e :: es) [] pos) (StX.tMakeR C sp E0 t) := by
  obtain ⟨f, F, M, g⟩ := c
  exact StX.pe_makeR M F (hr.mono hk) hg g pass0 ha hdb he hpl
theorem pe_nR0 (c : MakR X.prog X.w X.K X.mg X.base k x C sp) (hr : Room j X.A) (hk : k + 1 ≤ j) (hg : Gl X x) (hdb : (x == ("__debug__" : Str)) = false := by decide) : PE X (.Call (.Name x p) [] [] pos) (StX.tMakeR C sp E0 tNil) := by
  obtain ⟨f, F, M, g⟩ := c
  refine ⟨fun pins s σ H Q I h => ?_⟩
  refine wpAny_Call_Name_kw (ld_glob I hg g ?_ hdb)
  exact PySem.W.callWith_K0 I.kIn M.kp (StX.run_makeR (us := []) M F (hr.mono hk) pass0 I .nil h)
/-- C(*y) -/
def tMakeS (K : PySem.W.Frag) (C : Addr) (sp : Sp) (E : XK) (te : TE) : TE := fun σ H Q => te σ H fun y H1 => ∃ a xs, y = V.ref a ∧ (SqT K H1 a xs ∨ SqL K H1 a xs) ∧ ∀ x dx, H1 x = none → H1 dx = none → dx ≠ x →
  sp (V.ref x :: xs) (upd (upd H1 dx (.own x)) x (.ins C dx [])) (fun v H2 => v = .non ∧ Q (.ref x) H2) E
theorem pe_nRS (c : MakR X.prog X.w X.K X.mg X.base k x C sp) (hr : Room j X.A) (hk : k + 1 ≤ j) (hg : Gl X x) (he : PE X e te) (hd : (x == ("__debug__" : Str)) = false := by decide)
    (hst : starEach [.Starred e sp_] X.env = [(true, eval e X.env)] := by rfl) : PE X (.Call (.Name x p) [.Starred e sp_] [] pos) (tMakeS X.K C sp E0 te) := by
  obtain ⟨f, F, M, g⟩ := c
  refine ⟨fun pins s σ H Q I h => ?_⟩
  refine wpAny_Call_Name_kw (ld_glob I hg g ?_ hd)
  refine PySem.W.callWith_S (h₀ := X.base) I.ok.mod.kin M.kp (thn (he.run pins s σ H _ I h) fun v s1 ⟨y, H1, I1, ry, a, xs, ey, hxs, q⟩ => ?_) hst
  subst ey
  obtain rfl : v = Value.ref a := ry
  exact StX.star_any I1 hxs fun us s2 I2 rv => ⟨I2.kIn, StX.run_makeR M F (hr.mono hk) pass0 I2 rv q⟩
theorem pe_o (hf : PE X fe tf) (c : CalO X.prog X.w X.K X.mg X.base k C sp) (hr : Room j X.A) (hk : k ≤ j) (ha : PA X (e :: es) t)
    (ht : eval (.Call fe (e :: es) [] pos) X.env = (do callWith pos (← eval fe X.env) [] (backTo pos (starEach (e :: es) X.env)) (backToKw pos (keywordEach [] X.env))) := by rfl)
    (he : starEach (e :: es) X.env = (false, eval e X.env) :: starEach es X.env := by rfl) (hpl : (backTo pos (starEach es X.env)).any (·.1) = false := by rfl) : PE X (.Call fe (e :: es) [] pos) (StX.tCallO X C sp E0 tf t) := by
  obtain ⟨g, F, c⟩ := c
  exact StX.pe_callO hf c F (hr.mono hk) pass0 ha ht he hpl
theorem pe_oK (hf : PE X fe tf) (c : CalOK X.prog X.w X.K X.mg X.base k C ks gV sp) (hr : Room j X.A) (hk : k ≤ j) (hkw : PK X kws tk)
    (hall : (backToKw pos (keywordEach kws X.env)).all (·.1.isSome) = true := by rfl) (hks : (backToKw pos (keywordEach kws X.env)).filterMap (·.1) = ks := by rfl)
    (ht : eval (.Call fe [] kws pos) X.env = (do callWith pos (← eval fe X.env) [] (backTo pos (starEach [] X.env)) (backToKw pos (keywordEach kws X.env))) := by rfl)
    (hpl : ((backTo pos (starEach [] X.env)).any (·.1) || (backToKw pos (keywordEach kws X.env)).any (·.1.isNone)) = false := by rfl) : PE X (.Call fe [] kws pos) (tCallOK C ks.length gV sp E0 tf tk) := by
  obtain ⟨g, fd, ps, gg, F, c, b⟩ := c
  exact pe_callOK hf c F b (hr.mono hk) pass0 hkw hall hks ht hpl
theorem op_addS (c : CalS X.prog X.w X.K X.mg X.base k C "__add__" sp) (hc : PySem.W.selfFirst X.K C = true) (hr : Room j X.A) (hk : k ≤ j) : OpR X (binaryOp .Add) (rOpO X.K C "add" sp E0) := by
  obtain ⟨f, F, h1, h2⟩ := c
  exact op_addO hc h1 h2 F (hr.mono hk) pass0
theorem iop_addS (c : CalS X.prog X.w X.K X.mg X.base k C "__add__" sp) (hc : PySem.W.selfFirst X.K C = true) (ho : ∃ cd, PySem.W.clsIn X.K C = some cd ∧ cd.mro = [.ref C, .type "object"]) (hi : PySem.W.findIn X.K (.ref C) "__iadd__" = some none)
    (oi : PySem.W.findIn X.K (.type "object") "__iadd__" = some none) (hr : Room j X.A) (hk : k ≤ j) : OpR X (inplaceOp .Add) (rOpO X.K C "add" sp E0) := by
  obtain ⟨f, F, h1, h2⟩ := c
  exact iop_addO hc ho hi oi h1 h2 F (hr.mono hk) pass0
theorem call_lenS (c : CalS X.prog X.w X.K X.mg X.base k C "__len__" sp) (hr : Room j X.A) (hk : k + 1 ≤ j) : CallR X (.builtin "len") (rLenI C sp E0) := by
  obtain ⟨f, F, h1, h2⟩ := c
  exact call_lenI h1 h2 F (hr.mono hk) pass0
end
end UL
set_option Elab.async false
set_option linter.all false
set_option maxRecDepth 100000
set_option maxHeartbeats 4000000
namespace UL
open PySem L2
theorem join_len (a : Str) (ys : List Str) : (Txt.join a ys).length ≤ (ys.map (·.length)).sum + ys.length * a.length := by
  cases ys with
  | nil => exact Nat.zero_le _
  | cons y r =>
    show (Array.size _) ≤ _
    show (r.foldl (fun acc p => acc ++ a.cps ++ p.cps) y.cps).size ≤ _
    rw [PySem.size_gluedFold]
    simp only [List.map_cons, List.sum_cons, List.length_cons, Nat.add_mul]
    show y.length + _ + _ ≤ _
    omega
theorem listText_le (ts : List Str) : (listText ts).length ≤ (ts.map fun t => t.length + 2).sum + 2 := by
  cases ts with
  | nil => decide +kernel
  | cons t r =>
    have e : (listText (t :: r)).length = (textFrom 1 (("[" : Str) ++ (if (0 : Nat) > 0 then ", " else "" : String) ++ t) r).length + 1 := by
      show (textFrom 0 "[" (t :: r) ++ ("]" : Str)).length = _
      rw [Str.length_append]
      rfl
    rw [e, textFrom_length_pos _ _ _ (Nat.succ_pos 0)]
    have h1 : (("[" : Str) ++ ((if (0 : Nat) > 0 then ", " else "" : String) : Str) ++ t).length = 1 + t.length := by
      rw [Str.length_append, Str.length_append]
      rfl
    rw [h1]
    show 1 + t.length + (r.map fun t => t.length + 2).sum + 1 ≤ _
    simp only [List.map_cons, List.sum_cons]
    omega
theorem sum_le {α : Type} (f : α → Nat) (k : Nat) : ∀ l : List α, (∀ x ∈ l, f x ≤ k) → (l.map f).sum ≤ l.length * k
  | [], _ => by simp
  | x :: r, h => by
    have h1 := h x List.mem_cons_self
    have h2 := sum_le f k r fun y hy => h y (List.mem_cons_of_mem _ hy)
    simp only [List.map_cons, List.sum_cons, List.length_cons, Nat.add_mul]
    omega
/-! ### rows of bits -/
/-- a bit, None for an unknown one -/
abbrev Bt := Option Bool
def bV : Bt → V
  | none => .non
  | some false => .int 0
  | some true => .int 1
def bD : Bt → PyData
  | none => .none
  | some false => .int 0
  | some true => .int 1
theorem bD_dp {K : PySem.W.Frag} {H : Hp} (b : Bt) : Dp K H (bV b) (bD b) := by
  rcases b with _ | _ | _
  · exact .non
  · exact .int 0
  · exact .int 1
theorem bDs_dp {K : PySem.W.Frag} {H : Hp} : ∀ bs : List Bt, DpAll K H (bs.map bV) (bs.map bD)
  | [] => .nil
  | b :: bs => .cons (bD_dp b) (bDs_dp bs)
theorem shownAll_map : ∀ ds : List PyData, PyData.shownAll ds = ds.map PyData.shown
  | [] => by simp [PyData.shownAll]
  | d :: ds => by simp [PyData.shownAll, shownAll_map ds]
theorem bits_data (bs : List Bt) (h : bs.length ≤ 200) : (PyData.list (bs.map bD)).showable = true ∧ (PyData.list (bs.map bD)).hasDict = false ∧ (PyData.list (bs.map bD)).depth ≤ 40 ∧ (PyData.list (bs.map bD)).shown.length ≤ 4000 := by
  have h1 : ∀ bs : List Bt, PyData.showableAll (bs.map bD) = true := by
    intro bs
    induction bs with
    | nil => simp [PyData.showableAll]
    | cons b bs ih =>
      have : (bD b).showable = true := by rcases b with _ | _ | _ <;> decide +kernel
      simp [PyData.showableAll, ih, this]
  have h2 : ∀ bs : List Bt, PyData.hasDictAll (bs.map bD) = false := by
    intro bs
    induction bs with
    | nil => simp [PyData.hasDictAll]
    | cons b bs ih =>
      have : (bD b).hasDict = false := by rcases b with _ | _ | _ <;> decide +kernel
      simp [PyData.hasDictAll, ih, this]
  refine ⟨by simpa [PyData.showable] using h1 bs, by simpa [PyData.hasDict] using h2 bs, ?_, ?_⟩
  · have := depth_all (k := 0) (ds := bs.map bD) fun d hd => by
      obtain ⟨b, _, rfl⟩ := List.mem_map.mp hd
      rcases b with _ | _ | _ <;> simp [bD, PyData.depth]
    simp only [PyData.depth]
    omega
  · have e : (PyData.list (bs.map bD)).shown = listText (bs.map fun b => (bD b).shown) := by
      simp only [PyData.shown, shownAll_map, List.map_map]
      rfl
    rw [e]
    have h3 := listText_le (bs.map fun b => (bD b).shown)
    have h4 := sum_le (fun t : Str => t.length + 2) 6 (bs.map fun b => (bD b).shown) fun t ht => by
      obtain ⟨b, _, rfl⟩ := List.mem_map.mp ht
      rcases b with _ | _ | _ <;> decide +kernel
    rw [List.length_map] at h4
    omega
end UL
set_option Elab.async false
set_option linter.all false
set_option maxRecDepth 100000
set_option maxHeartbeats 4000000
namespace UL
open PySem PySem.Spec PyProof.Rows L2
def WalkE (J : It) (g : TG) (tb : TS) (D : Ends) (σ : L2.St) (H : Hp) : Prop := ∃ W : Nat → Nat → L2.St → Hp → Prop, (∃ m, W 0 m σ H) ∧ ∀ i m σ H, W i m σ H →
      (J.stop i H ∧ D.nx σ H) ∨ (J.go i H ∧ ∃ N : L2.St → Hp → Prop, (∀ σ' H', N σ' H' → ∃ m', m' < m ∧ W (i + 1) m' σ' H') ∧ ∀ x H', J.yld i H x H' → g x σ H' fun σ2 H2 => tb { D with nx := N, ct := N, bk := D.nx } σ2 H2)
/-- a walk over enumerate of a list or a tuple -/
theorem for_enumB {K : PySem.W.Frag} {a : Addr} {xs : List V} {g : TG} {tb : TS} {D : Ends} {σ : L2.St} {H : Hp} (Pv : Nat → L2.St → Hp → Prop) (h0 : Pv 0 σ H) (hl : (∀ i σ H, Pv i σ H → SqL K H a xs) ∨ ∀ i σ H, Pv i σ H → SqT K H a xs)
    (hs : ∀ i x σ H T, xs[i]? = some x → Pv i σ H → H T = none → g (.ref T) σ (upd H T (.tup [.int (i : Nat), x])) fun σ2 H2 => tb { D with nx := Pv (i + 1), ct := Pv (i + 1), bk := D.nx } σ2 H2) (hd : ∀ σ H, Pv xs.length σ H → D.nx σ H) :
    (SqL K H a xs ∧ WalkE (Ite K a) g tb D σ H) ∨ (SqT K H a xs ∧ WalkE (Itet K a) g tb D σ H) := by
  rcases hl with hl | hl
  · exact .inl ⟨hl 0 σ H h0, for_enumL Pv h0 (fun i σ H _ p => hl i σ H p) hs hd⟩
  · exact .inr ⟨hl 0 σ H h0, for_enumT Pv h0 (fun i σ H _ p => hl i σ H p) hs hd⟩
end UL
set_option Elab.async false
set_option linter.all false
set_option maxRecDepth 100000
set_option maxHeartbeats 4000000
namespace UL
open PySem PySem.Spec PyProof.Rows L2
section
variable {X : Cx} {k j : Nat} {m : Str} {C : Addr} {sp : Sp} {o : Expr} {ta : TE} {pos apos : Pos}
theorem pe_m0 {pl : Sem Bool} (he : PE X o ta) (c : CalM X.prog X.w X.K X.mg X.base k C m sp) (hr : Room j X.A) (hk : k ≤ j)
    (ht : eval (.Call (.Attribute o m apos) [] [] pos) X.env = (do
      let ov ← eval o X.env
      standAt apos.atName
      let (f, first) ← holding [ov] (getMethod ov m pl)
      callWith pos f first (backTo pos (starEach [] X.env)) (backToKw pos (keywordEach [] X.env))) := by rfl) :
    PE X (.Call (.Attribute o m apos) [] [] pos) (tMeth C m sp [] E0 ta tNil) := by
  obtain ⟨f, fd, ps, F, cl, mt, b⟩ := c
  exact pe_meth0 he cl mt F (hr.mono hk) b .nil pass0 ht
end
/-! ### rows of a word and a number, as data -/
theorem eqv_list (ds es : List PyData) : PyData.eqv (.list ds) (.list es) = PyData.eqvAll ds es := by simp only [PyData.eqv]
end UL
set_option Elab.async false
set_option linter.all false
set_option maxRecDepth 100000
set_option maxHeartbeats 4000000
namespace HT
open PySem PySem.Spec PyProof.Rows
theorem rev_pick (xs : Array Value) : ((List.range xs.size).filterMap fun (m : Nat) => xs[(((xs.size : Int) - 1) + (m : Int) * (-1)).toNat]?) = xs.toList.reverse := by
  refine List.ext_getElem? fun i => ?_
  have e : ((List.range xs.size).filterMap fun (m : Nat) => xs[(((xs.size : Int) - 1) + (m : Int) * (-1)).toNat]?) = (List.range xs.size).pmap (fun m (h : m < xs.size) => xs[xs.size - 1 - m]) (fun m hm => List.mem_range.mp hm) := by
    have : ∀ (l : List Nat) (hl : ∀ m ∈ l, m < xs.size), (l.filterMap fun (m : Nat) => xs[(((xs.size : Int) - 1) + (m : Int) * (-1)).toNat]?) = l.pmap (fun m (h : m < xs.size) => xs[xs.size - 1 - m]) hl := by
      intro l
      induction l with
      | nil => intro _; rfl
      | cons m l ih =>
        intro hl
        have hm := hl m List.mem_cons_self
        have e1 : (((xs.size : Int) - 1) + (m : Int) * (-1)).toNat = xs.size - 1 - m := by omega
        rw [List.filterMap_cons, e1, Array.getElem?_eq_getElem (by omega)]
        simp only [List.pmap_cons]
        rw [ih fun k hk => hl k (List.mem_cons_of_mem _ hk)]
    exact this _ _
  rw [e]
  by_cases c : i < xs.size
  · rw [List.getElem?_reverse (by simpa using c)]
    simp [c]
  · rw [List.getElem?_eq_none (by simp; omega), List.getElem?_eq_none (by simp; omega)]
section
variable {prog : Program} {w : World} {A : Around} {E : Value → Shared → Prop} {s : Shared}
theorem sliceApplied_rev {sl : Addr} {vl vu vs : Value} {n : Nat} {Q : Int × Int × Nat → Shared → Prop} (hs : s.heap.IsSliceOf sl vl vu vs) (pl : IsPart vl none) (pu : IsPart vu none) (ps : IsPart vs (some (-1)))
    (h : Q (((n : Int) - 1), -1, n) s) : wpAny (model prog w) A (Builtin.Slice.sliceApplied (.ref sl) (pure (n : Int))) Q E s := by
  obtain ⟨os, hos, hcs, hds⟩ := id hs
  unfold Builtin.Slice.sliceApplied Builtin.Slice.sliceFields
  refine wpAny_bind (wpAny_bind (wpAny_field hos hds (x := vl) rfl (wpAny_bind (wpAny_field hos hds (x := vu) rfl (wpAny_bind (wpAny_field hos hds (x := vs) rfl (wpAny_pure ?_)))))))
  refine wpAny_bind (slicePart_ ps ?_)
  show wpAny _ _ (if ((-1 : Int) == 0) = true then _ else _) _ _ s
  rw [if_neg (by decide)]
  refine wpAny_bind (slicePart_ pl (wpAny_bind (slicePart_ pu (wpAny_bind (wpAny_pure ?_)))))
  have e1 : Builtin.Slice.sliceAdjust none none (-1) (n : Int) = ((n : Int) - 1, -1) := rfl
  have e2 : Builtin.Slice.slicePlaces ((n : Int) - 1) (-1) (-1) = n := by
    unfold Builtin.Slice.slicePlaces
    rw [if_neg (by decide)]
    by_cases c : (n : Int) - 1 > -1
    · rw [if_pos c]
      show ((((n : Int) - 1) - (-1) - 1) / 1 + 1).toNat = n
      rw [Int.ediv_one]
      omega
    · rw [if_neg c]
      omega
  show wpAny _ _ (match Builtin.Slice.sliceAdjust none none (-1) (n : Int) with | (lo, hi) => pure (lo, (-1 : Int), Builtin.Slice.slicePlaces lo hi (-1))) _ _ s
  rw [e1]
  show wpAny _ _ (pure (((n : Int) - 1), (-1 : Int), Builtin.Slice.slicePlaces ((n : Int) - 1) (-1) (-1))) _ _ s
  rw [e2]
  exact wpAny_pure h
theorem getItem_tuple_rev {t sl : Addr} {items : Array Value} {vl vu vs : Value} {Q : Value → Shared → Prop} (ht : IsTup s.heap t items) (hs : s.heap.IsSliceOf sl vl vu vs) (pl : IsPart vl none) (pu : IsPart vu none) (ps : IsPart vs (some (-1)))
    (h : Q (.ref s.heap.objs.size) { s with heap := s.heap.push { cls := .type "tuple", data := .seq items.toList.reverse.toArray } })
    (hsz : items.size ≤ sizeLine) : wpAny (model prog w) A (getItem (.ref t) (.ref sl)) Q E s := by
  have htake : sizeOk (.seq items.toList.reverse.toArray) := by
    show items.toList.reverse.toArray.size ≤ sizeLine
    rw [List.size_toArray, List.length_reverse, Array.length_toList]
    exact hsz
  obtain ⟨os, hos, hcs, hds⟩ := id hs
  have hTs : s.TypeIs (.ref sl) "slice" := ⟨os, hos, hcs⟩
  unfold getItem
  try with_reducible refine wpAny_holding ?_
  first | refine wpAny_bind (wpAny_pure ?_) | skip
  refine wpAny_bind (wpAny_sequenceKey ht.typeIs (by decide) ?_)
  refine wpAny_bind (wpAny_callSpecial?_slot (name := Str.ofString "__getitem__") ht.typeIs PyProof.Rows.slot_tuple_getitem
    (wpAny_call_entry PyProof.Rows.slot_tuple_getitem ht.typeIs entry_tuple_getitem ?_ (args_tuple_getitem _ _)))
  show wpAny _ _ (Builtin.Tuple.tupleItemsOf (.ref t) >>= _) _ _ s
  refine wpAny_bind (tupleItemsOf_ ht ?_)
  refine wpAny_bind (wpAny_typeOf hTs ?_)
  rw [if_pos (by decide)]
  refine wpAny_bind (sliceApplied_rev hs pl pu ps ?_)
  have hno : ¬ ((((items.size : Int) - 1) == 0 && (-1 : Int) == 1 && items.size == items.size) = true) := by simp
  show wpAny _ _ (if (((items.size : Int) - 1) == 0 && (-1 : Int) == 1 && items.size == items.size) = true then _ else _) _ _ s
  rw [if_neg hno, rev_pick]
  first
    | exact wpAny_bind (m := Builtin.Tuple.tupleExact _) (wpAny_newObj_type (wpAny_pure ⟨_, rfl, wpAny_pure h⟩) htake)
    | exact wpAny_bind (m := Builtin.Tuple.tupleExact _) (wpAny_newObj_type (wpAny_bind (wpAny_pure (wpAny_pure ⟨_, rfl, wpAny_pure h⟩))) htake)
    | exact wpAny_bind (wpAny_bind (m := Builtin.Tuple.tupleExact _) (wpAny_newObj_type (wpAny_pure (wpAny_pure ⟨_, rfl, wpAny_pure h⟩)) htake))
    | exact wpAny_bind (wpAny_bind (m := Builtin.Tuple.tupleExact _) (wpAny_newObj_type (wpAny_pure ⟨_, rfl, wpAny_pure h⟩) htake))
end
end HT
namespace UL
open PySem PySem.Spec PyProof.Rows L2
section
variable {X : Cx}
/-- t[::-1], t a tuple -/
def tRevT (K : PySem.W.Frag) (te : TE) : TE := fun σ H Q => te σ H fun x H1 => ∃ a xs, x = .ref a ∧ SqT K H1 a xs ∧ ∀ p, H1 p = none → Q (.ref p) (upd H1 p (.tup xs.reverse))
theorem pe_revT {e : Expr} {te : TE} {k : Nat} {p1 p2 p3 pos : Pos} (he : PE X e te) : PE X (.Subscript e (.Slice none none (some (.UnaryOp .USub (.Constant (.int 1) k p1) p2)) p3) pos) (tRevT X.K te) := by
  refine ⟨fun pins s σ H Q I h => ?_⟩
  refine Subscript_ (thn (he.run pins s σ H _ I h) fun v s1 ⟨x, H1, I1, r1, q1⟩ => ?_)
  obtain ⟨a, xs, ex, hx, q⟩ := q1
  subst ex
  cases r1
  have hst : PO X (some (.UnaryOp .USub (.Constant (.int 1) k p1) p2)) (tPart (tUn (rU fun i => .int (-i)) (tC (.int 1)))) := po_some (pe_un un_neg pe_int)
  refine wpAny_Slice (thn (po_none.run pins s1 σ H1 (fun o H2 => o = none ∧ H2 = H1) I1 ⟨rfl, rfl⟩) fun vl s2 ⟨l, H2, I2, pl, el, e2⟩ => ?_)
  subst el e2
  refine thn (po_none.run pins s2 σ H2 (fun o H3 => o = none ∧ H3 = H2) I2 ⟨rfl, rfl⟩) fun vu s3 ⟨u, H3, I3, pu, eu, e3⟩ => ?_
  subst eu e3
  refine thn (hst.run pins s3 σ H3 (fun o H4 => o = some (-1) ∧ H4 = H3) I3 ⟨1, rfl, -1, rfl, rfl, rfl⟩) fun vs s4 ⟨o, H4, I4, ps, eo, e4⟩ => ?_
  subst eo e4
  have I5 : Inv X pins σ H4 { s4 with heap := s4.heap.push { cls := .type "slice", data := .fields #[vl, vu, vs] } } := I4.kept (t' := s4.toks) fun b ob q => Heap.get?_push_of_some _ q
  obtain ⟨its, r, ht, hz⟩ := I5.tuple hx
  have hlen := r.length
  show wpAny (model X.prog X.w) X.A (subscriptTail e (.Slice none none (some (.UnaryOp .USub (.Constant (.int 1) k p1) p2)) p3) (.ref a) (.ref s4.heap.objs.size)) (EP X pins σ Q) X.xe { s4 with heap := s4.heap.push { cls := .type "slice", data := .fields #[vl, vu, vs] } }
  refine tail_any (ops := [.ref a, .ref s4.heap.objs.size]) ht.typeIs (PyProof.Rows.slot_tuple_getitem.lookup) ?_ (by with_unfolding_all rfl)
  refine HT.getItem_tuple_rev ht (Heap.IsSliceOf.new _ vl vu vs) pl pu ps ?_ (by rw [List.size_toArray]; omega)
  refine ⟨.ref _, _, I5.laid (t' := s4.toks) (o := .tup xs.reverse) (fun b ob q => Heap.get?_push_of_some _ q) (Nat.le_refl _) ?_, rfl, q _ (I5.hok.fresh (Nat.le_refl _))⟩
  exact ⟨by show xs.reverse.length ≤ sizeLine; rw [List.length_reverse]; exact hz, _, r.reverse, ⟨_, Heap.get?_push_size _ rfl, rfl, _, rfl⟩⟩
end
end UL
set_option Elab.async false
set_option linter.all false
set_option maxRecDepth 100000
set_option maxHeartbeats 4000000
namespace UL
open PySem L2
/-! ### unlike rows have unlike texts -/
def tok : Bt → List Nat
  | none => [78, 111, 110, 101]
  | some false => [48]
  | some true => [49]
def encT : List Bt → List Nat
  | [] => [93]
  | x :: xs => 44 :: 32 :: (tok x ++ encT xs)
def enc : List Bt → List Nat
  | [] => [91, 93]
  | x :: xs => 91 :: (tok x ++ encT xs)
theorem encT_inj : ∀ {xs ys : List Bt}, encT xs = encT ys → xs = ys
  | [], [], _ => rfl
  | [], y :: ys, h => by simp [encT] at h
  | x :: xs, [], h => by simp [encT] at h
  | x :: xs, y :: ys, h => by
    have h' : tok x ++ encT xs = tok y ++ encT ys := by
      simp only [encT, List.cons.injEq, true_and] at h
      exact h
    have e : x = y ∧ encT xs = encT ys := by
      rcases x with _ | _ | _ <;> rcases y with _ | _ | _ <;> simp [tok] at h' <;> exact ⟨rfl, h'⟩
    rw [e.1, encT_inj e.2]
theorem enc_inj {xs ys : List Bt} (h : enc xs = enc ys) : xs = ys := by
  cases xs with
  | nil =>
    cases ys with
    | nil => rfl
    | cons y ys =>
      rcases y with _ | _ | _ <;> simp [enc, tok] at h
  | cons x xs =>
    cases ys with
    | nil => rcases x with _ | _ | _ <;> simp [enc, tok] at h
    | cons y ys =>
      apply encT_inj
      simp only [enc, List.cons.injEq, true_and] at h
      simp only [encT, h]
theorem tok_shown (x : Bt) : ((bD x).shown).cps.toList = tok x := by rcases x with _ | _ | _ <;> decide +kernel
theorem cps_app (a b : Str) : (a ++ b).cps.toList = a.cps.toList ++ b.cps.toList := by
  show (a.cps ++ b.cps).toList = _
  simp
theorem text_tail : ∀ (xs : List Bt) (k : Nat) (acc : Str), 0 < k → (textFrom k acc (xs.map fun b => (bD b).shown) ++ ("]" : Str)).cps.toList = acc.cps.toList ++ encT xs
  | [], k, acc, _ => by
    show (acc ++ ("]" : Str)).cps.toList = _
    rw [cps_app]
    rfl
  | x :: xs, k, acc, h => by
    show (textFrom (k + 1) (acc ++ ((if k > 0 then ", " else "" : String) : Str) ++ (bD x).shown) (xs.map fun b => (bD b).shown) ++ ("]" : Str)).cps.toList = _
    rw [text_tail xs (k + 1) _ (Nat.succ_pos k), if_pos h, cps_app, cps_app, tok_shown, List.append_assoc, List.append_assoc]
    rfl
theorem text_enc (xs : List Bt) : (listText (xs.map fun b => (bD b).shown)).cps.toList = enc xs := by
  cases xs with
  | nil => decide +kernel
  | cons x xs =>
    show (textFrom 1 (("[" : Str) ++ ((if (0 : Nat) > 0 then ", " else "" : String) : Str) ++ (bD x).shown) (xs.map fun b => (bD b).shown) ++ ("]" : Str)).cps.toList = _
    rw [text_tail xs 1 _ (by decide), cps_app, cps_app, tok_shown]
    rfl
theorem shown_bits (xs : List Bt) : (PyData.list (xs.map bD)).shown = listText (xs.map fun b => (bD b).shown) := by
  simp only [PyData.shown, shownAll_map, List.map_map]
  rfl
theorem shown_inj {xs ys : List Bt} : decide (V.str (PyData.list (xs.map bD)).shown = V.str (PyData.list (ys.map bD)).shown) = decide (xs = ys) := by
  by_cases h : xs = ys
  · subst h
    rw [decide_eq_true rfl, decide_eq_true rfl]
  · rw [decide_eq_false h]
    refine decide_eq_false fun e => h (enc_inj ?_)
    have e1 := V.str.inj e
    rw [shown_bits, shown_bits] at e1
    rw [← text_enc, ← text_enc, e1]
end UL
set_option Elab.async false
set_option linter.all false
set_option maxRecDepth 100000
set_option maxHeartbeats 4000000
namespace UL
open PySem PySem.Spec PyProof.Rows L2
section
variable {X : Cx}
/-- o[a:b] = v, o and v two tracked lists -/
def gSlset (to ta tb : TE) : TG := fun v σ H Q => to σ H fun o H1 => tPart ta σ H1 fun oa H2 => tPart tb σ H2 fun ob H3 => ∃ (l q : Addr) (xs ys : List V) (a b : Int), o = .ref l ∧ oa = some a ∧ ob = some b ∧ v = .ref q ∧ H3 l = some (.lst xs) ∧ H3 q = some (.lst ys) ∧ l ≠ q ∧
  0 ≤ a ∧ a ≤ b ∧ b ≤ xs.length ∧ xs.length + ys.length ≤ sizeLine ∧ Q σ (upd H3 l (.lst (xs.take a.toNat ++ ys ++ xs.drop b.toNat)))
theorem pg_slset {o a b : Expr} {to ta tb : TE} {p2 pos : Pos} (ho : PE X o to) (ha : PE X a ta) (hb : PE X b tb)
    (he : ∀ v, assign (.Subscript o (.Slice (some a) (some b) none p2) pos) X.env v = (do
      let ov ← holding [v] (eval o X.env)
      let iv ← holding [v, ov] (eval (.Slice (some a) (some b) none p2) X.env)
      standAt pos
      holding [v, ov, iv] (setItem ov iv v)
      release [iv, v, ov] []) := by intro _; rfl) : PG X (.Subscript o (.Slice (some a) (some b) none p2) pos) (gSlset to ta tb) := by
  refine ⟨fun pins s σ H v u Q I r h => ?_⟩
  rw [he]
  refine wpAny_bind (wpAny_holding (thn (ho.run pins s σ H _ I h) fun ov s1 ⟨x, H1, I1, r1, q1⟩ => ?_))
  refine wpAny_bind (wpAny_holding (wpAny_Slice (thn ((po_some ha).run pins s1 σ H1 _ I1 q1) fun vl s2 ⟨lo, H2, I2, pl, q2⟩ => thn ((po_some hb).run pins s2 σ H2 _ I2 q2) fun vu s3 ⟨hi, H3, I3, pu, q3⟩ => ?_)))
  rw [evalPart_none]
  refine wpAny_pure ?_
  obtain ⟨l, q, xs, ys, a', b', rfl, rfl, rfl, rfl, e1, e2, ne, g1, g2, g3, g4, k⟩ := q3
  have I4 : Inv X pins σ H3 { s3 with heap := s3.heap.push { cls := .type "slice", data := .fields #[vl, vu, .none] } } := I3.kept (t' := s3.toks) fun b ob q => Heap.get?_push_of_some _ q
  cases (show ov = Value.ref l from r1)
  cases (show u = Value.ref q from r)
  refine wpAny_bind (wpAny_standAt (wpAny_bind (wpAny_holding ?_)))
  refine set_slice (X := X) (pins := pins) (σ := σ) (a := a') (c := b') I4 e1 e2 ne (Heap.IsSliceOf.new ..) ?_ ?_ g1 g2 g3 g4 fun s5 I5 => wpAny_release ⟨σ, _, I5, k⟩
  · cases pl
    exact ⟨_, rfl⟩
  · cases pu
    exact ⟨_, rfl⟩
end
end UL
set_option Elab.async false
set_option linter.all false
set_option maxRecDepth 100000
set_option maxHeartbeats 4000000
namespace UL
open PySem L2
theorem Same.look {H H' : Hp} {a : Addr} {o : HO} (s : L2.Same H H') (h : H a = some o) : H' a = some o := s _ _ h
theorem new_look {H : Hp} {p a : Addr} {o o' : HO} (hp : H p = none) (h : H a = some o) : upd H p o' a = some o := by rw [upd_ne (ne_of_none h hp)]; exact h
theorem Stay.lookT {H H' : Hp} {p a : Addr} {xs : List V} (s : Stay p H H') (hp : Pot H p) (h : H a = some (.tup xs)) : H' a = some (.tup xs) := by
  obtain ⟨x, y, e, _⟩ := hp
  exact s _ _ (ne_of h e (by intro z; cases z)) h
theorem Stay.lookI {H H' : Hp} {p a C dx : Addr} {fs : List (Str × V)} (s : Stay p H H') (hp : Pot H p) (h : H a = some (.ins C dx fs)) : H' a = some (.ins C dx fs) := by
  obtain ⟨x, y, e, _⟩ := hp
  exact s _ _ (ne_of h e (by intro z; cases z)) h
theorem iteFo' {c : Bool} {A B : Prop} (hc : c = false) (h : B) : if c = true then A else B := by rw [if_neg (by rw [hc]; exact Bool.false_ne_true)]; exact h
theorem iteTo' {c : Bool} {A B : Prop} (hc : c = true) (h : A) : if c = true then A else B := by rw [if_pos hc]; exact h
theorem over_look {H : Hp} {x p : Addr} {o u : HO} (n : p ≠ x) (h : H p = some u) : upd H x o p = some u := by rw [upd_ne n]; exact h
theorem ne_new {H : Hp} {a b : Addr} {o : HO} (hb : H b = none) (ha : H a = some o) : b ≠ a := fun e => by rw [e, ha] at hb; cases hb
theorem up_none {H : Hp} {x p : Addr} {o : HO} (h : upd H x o p = none) : H p = none := by
  by_cases e : p = x
  · rw [e, upd_same] at h
    cases h
  · rw [upd_ne e] at h
    exact h
theorem Same.none {H H' : Hp} {p : Addr} (s : L2.Same H H') (h : H' p = none) : H p = none := by
  cases e : H p with
  | none => rfl
  | some o =>
    rw [s _ _ e] at h
    cases h
theorem Stay.same {H H' : Hp} {p : Addr} (s : Stay p H H') (h : H p = none) : L2.Same H H' := fun b o e => s b o (ne_of_none e h) e
/-- both ways of a conditional expression hand on one value -/
theorem ite_val {c : Bool} {ta tb : TE} {σ : L2.St} {H : Hp} {Q : VK} (v : V) (ha : c = true → ∀ Q : VK, Q v H → ta σ H Q) (hb : c = false → ∀ Q : VK, Q v H → tb σ H Q) (h : Q v H) : if c = true then ta σ H Q else tb σ H Q := by
  cases c with
  | true => rw [if_pos rfl]; exact ha rfl Q h
  | false => rw [if_neg Bool.false_ne_true]; exact hb rfl Q h
theorem ite_and {c : Bool} {t : TT} {σ : L2.St} {H : Hp} {Q : Bool → Hp → Prop} (b : Bool) (ha : c = true → ∀ Q : Bool → Hp → Prop, Q b H → t σ H Q) (hb : c = false → b = false) (h : Q b H) : if c = true then t σ H Q else Q false H := by
  cases c with
  | true => rw [if_pos rfl]; exact ha rfl Q h
  | false => rw [if_neg Bool.false_ne_true, ← hb rfl]; exact h
theorem ite_or {c : Bool} {t : TT} {σ : L2.St} {H : Hp} {Q : Bool → Hp → Prop} (b : Bool) (ha : c = false → ∀ Q : Bool → Hp → Prop, Q b H → t σ H Q) (hb : c = true → b = true) (h : Q b H) : if c = true then Q true H else t σ H Q := by
  cases c with
  | false => rw [if_neg Bool.false_ne_true]; exact ha rfl Q h
  | true => rw [if_pos rfl, ← hb rfl]; exact h
/-- both ways of an if go on from one place -/
theorem ite_st {c : Bool} {ta tb : TS} {D : Ends} {σ : L2.St} {H : Hp} (σ' : L2.St) (H' : Hp) (ha : c = true → ∀ D : Ends, D.nx σ' H' → ta D σ H) (hb : c = false → ∀ D : Ends, D.nx σ' H' → tb D σ H) (h : D.nx σ' H') : if c = true then ta D σ H else tb D σ H := by
  cases c with
  | true => rw [if_pos rfl]; exact ha rfl D h
  | false => rw [if_neg Bool.false_ne_true]; exact hb rfl D h
end UL
set_option Elab.async false
set_option linter.all false
set_option maxRecDepth 100000
set_option maxHeartbeats 4000000
namespace UL
open PySem PySem.Spec PyProof.Rows L2 StX
/-! ### classes made: with keywords behind what is written, with stars, by keywords where the rest is a star -/
section
variable (P : Program) (w : World) (K : PySem.W.Frag) (mg : Str → Option Value) (base : Heap)
/-- n values, then the keywords ks -/
def MakN (k : Nat) (x : Str) (C : Addr) (n : Nat) (ks : List Str) (gV : List V → List V → List V) (sp : Sp) : Prop := ∃ f fd ps g, FnOk P w K mg base CX0 k f fd ps sp ∧ Mk K C f ∧ mg x = some (.ref C) ∧ KBn K fd ps (n + 1) ks g gV
/-- a def run with one value and the keywords ks -/
def FnKw (k : Nat) (f : Addr) (ks : List Str) (sp : Sp) : Prop := ∀ (A : Around) (outer : List Env) (s : Shared) (H : Hp) (u : Value) (v : V) (ws : List Value) (zs : List V) (Q : VK), Room k A → Env0 P w K mg base A outer s H → RelV v u → Vals zs ws → zs.length = ks.length →
  sp (v :: zs) H Q E0 → codeAny (model P w) A (.call (.ref f) ⟨[u], ks.zip ws⟩) (CR CX0 outer P w H s Q E0) s
def MakW (k : Nat) (x : Str) (C : Addr) (ks : List Str) (sp : Sp) : Prop := ∃ f, FnKw P w K mg base k f ks sp ∧ Mk K C f ∧ mg x = some (.ref C)
end
section
variable {X : Cx} {k j n : Nat} {x : Str} {C : Addr} {sp : Sp} {e : Expr} {es : List Expr} {kws : List Keyword} {ks : List Str} {gV : List V → List V → List V} {t tk : TA} {p pos : Pos}
theorem pe_nN (c : MakN X.prog X.w X.K X.mg X.base k x C n ks gV sp) (hr : Room j X.A) (hk : k + 1 ≤ j) (hg : Gl X x) (ha : PA X (e :: es) t) (hkw : PK X kws tk)
    (h1 : (backToKw pos (keywordEach kws X.env)).all (·.1.isSome) = true := by rfl) (h2 : (backToKw pos (keywordEach kws X.env)).filterMap (·.1) = ks := by rfl) (h3 : (x == ("__debug__" : Str)) = false := by decide)
    (h4 : starEach (e :: es) X.env = (false, eval e X.env) :: starEach es X.env := by rfl)
    (h5 : ((backTo pos (starEach (e :: es) X.env)).any (·.1) || (backToKw pos (keywordEach kws X.env)).any (·.1.isNone)) = false := by rfl) :
    PE X (.Call (.Name x p) (e :: es) kws pos) (tMakeN C n ks.length sp gV E0 t tk) := by
  obtain ⟨f, fd, ps, g, F, M, m, b⟩ := c
  exact pe_makeN M F (hr.mono hk) hg m b pass0 ha hkw h1 h2 h3 h4 h5
/-- C(e, .., *y) -/
theorem pe_nR2 (c : MakR X.prog X.w X.K X.mg X.base k x C sp) (hr : Room j X.A) (hk : k + 1 ≤ j) (hg : Gl X x) (ha : PA X (e :: es) t) (h3 : (x == ("__debug__" : Str)) = false := by decide)
    (h4 : starEach (e :: es) X.env = (false, eval e X.env) :: starEach es X.env := by rfl) (h5 : (backTo pos (starEach es X.env)).any (·.1) = true := by rfl) : PE X (.Call (.Name x p) (e :: es) [] pos) (StX.tMakeR C sp E0 t) := by
  obtain ⟨f, F, M, m⟩ := c
  refine ⟨fun pins s σ H Q I h => wpAny_Call_Name_kw (ld_glob I hg m ?_ h3)⟩
  exact PySem.W.callWith_S2 (h₀ := X.base) I.ok.mod.kin M.kp (thn (ha.run pos pins s σ H _ I h) fun us s1 ⟨vs, H1, J, rv, q⟩ => ⟨J.kIn, StX.run_makeR M F (hr.mono hk) pass0 J rv q⟩) h4 h5
/-- C(k = v, ..), the class's rest a star -/
def tMakeW (C : Addr) (m : Nat) (sp : Sp) (tk : TA) : TE := fun σ H Q => tk σ H fun zs H1 => zs.length = m ∧ ∀ x dx, H1 x = none → H1 dx = none → dx ≠ x → sp (V.ref x :: zs) (upd (upd H1 dx (.own x)) x (.ins C dx [])) (fun v H2 => v = .non ∧ Q (.ref x) H2) E0
theorem pe_nW (c : MakW X.prog X.w X.K X.mg X.base k x C ks sp) (hr : Room j X.A) (hk : k + 1 ≤ j) (hg : Gl X x) (hkw : PK X kws tk)
    (h1 : (backToKw pos (keywordEach kws X.env)).all (·.1.isSome) = true := by rfl) (h2 : (backToKw pos (keywordEach kws X.env)).filterMap (·.1) = ks := by rfl) (h3 : (x == ("__debug__" : Str)) = false := by decide)
    (h5 : ((backTo pos (starEach [] X.env)).any (·.1) || (backToKw pos (keywordEach kws X.env)).any (·.1.isNone)) = false := by rfl) : PE X (.Call (.Name x p) [] kws pos) (tMakeW C ks.length sp tk) := by
  obtain ⟨f, F, M, m⟩ := c
  refine ⟨fun pins s σ H Q I h => wpAny_Call_Name_kw (ld_glob I hg m (PySem.W.callWith_KW0 (h₀ := X.base) I.ok.mod.kin M.kp h1 (thn (hkw.run pos pins s σ H _ I h) fun ws s1 ⟨zs, H1, J, rz, l2, q⟩ => ⟨J.kIn, ?_⟩) h5) h3)⟩
  rw [h2]
  have hq := q (s1.heap.objs.size + 1) s1.heap.objs.size (J.hok.fresh (Nat.le_succ _)) (J.hok.fresh (Nat.le_refl _)) (Nat.ne_of_lt (Nat.lt_succ_self _))
  have J2 := Inv.made (C := C) J
  have hr' := hr.mono hk
  refine wpAny_call (make_map (f := f) J.kIn M.makes M.init (beq_iff_eq.mp M.fn) (codeAny_mono (F _ X.stack _ _ (Value.ref (s1.heap.objs.size + 1)) (V.ref (s1.heap.objs.size + 1)) ws zs _ (hr'.make C [] (ks.zip ws)) (J2.env0.make C [] (ks.zip ws)) rfl rz l2 hq) fun r s' hz => ?_))
  cases r with
  | error e => exact pass0 pins σ _ _ e s' J2 hz
  | ok fl =>
    cases fl with
    | ret u =>
      obtain ⟨v, H', J3, rv, ev, qz⟩ := J2.after hz
      subst ev
      exact ⟨rv, ⟨V.ref (s1.heap.objs.size + 1), H', J3, rfl, qz⟩⟩
    | next => exact hz.elim
    | brk => exact hz.elim
    | cont => exact hz.elim
end
/-- def f(self, a, .., *v) called by self and the keywords of a, ..: v is an empty tuple -/
theorem fnKw_star {P : Program} {w : World} {K : PySem.W.Frag} {mg : Str → Option Value} {base : Heap} {k : Nat} {f : Addr} {name qual : Str} {params : Arguments} {body : List Stmt} {scope : Scope} {dV kV doc pm cdv ct oc : Value} {an od : Option Addr}
    {osl : Array (Option Value)} {N ps ks : List Str} {p0 pv : Str} {sp : Sp} (lk : K.lookup f = some ⟨oc, od, .func (PySem.W.fnOf name qual params body scope dV kV doc pm an cdv ct), osl⟩) (hcd : PySem.W.codeIn K cdv qual = true) (S : FnScope N (p0 :: (ks ++ [pv])) scope)
    (hb : ∀ (u : Value) (ws : List Value), ws.length = ks.length → bindArgs (PySem.W.fnOf name qual params body scope dV kV doc pm an cdv ct) ⟨[u], ks.zip ws⟩ = (newTuple [] >>= fun t => pure ((p0, u) :: (ks.zip ws ++ [(pv, t)]))))
    (hbody : ∀ (A : Around) (outer : List Env) (s : Shared) (H : Hp) (vs : List V) (Q : VK) (E : XK), Room k (A.deeper (envOfC qual scope s.heap.objs.size f cdv)) → sp vs H Q E →
      ∃ t, PSs (cxOf CX0 P w K mg base N qual scope f cdv A outer s H E) body t ∧ t { nx := fun _ H' => Q .non H', rt := Q } (start N vs) H) :
    FnKw P w K mg base (k + 1) f ks (fun vs H Q E => vs.length = ks.length + 1 ∧ ∀ p, H p = Option.none → sp (vs ++ [V.ref p]) (upd H p (.tup [])) Q E) := by
  intro A outer s H u v ws zs Q hr e0 ru rz hl h
  have fr : H s.heap.objs.size = Option.none := e0.hok.fresh (Nat.le_refl _)
  refine run_bnd lk hcd S hr e0 (G := fun xs H2 => ∃ p, H p = Option.none ∧ xs = v :: (zs ++ [V.ref p]) ∧ H2 = upd H p (.tup [])) (fun A' Ex Q' z => ?_) fun s2 H2 xs ⟨p, hp, e1, e2⟩ hr' => ?_
  · rw [hb u ws (rz.length.symm.trans hl)]
    refine wpAny_bind (wpAny_newTuple (wpAny_pure ?_) (Nat.zero_le _))
    have new : ObjOk P w (upd H s.heap.objs.size (.tup [])) (s.heap.push ({ cls := .type "tuple", data := .seq (#[] : Array Value) } : Obj)) s.heap.objs.size (.tup []) := ⟨Nat.zero_le _, [], .nil, ⟨_, Heap.get?_push_size _ rfl, rfl, _, rfl⟩⟩
    have lai := un_laid (fs := frs outer) (s := s) (o := ({ cls := .type "tuple", data := .seq (#[] : Array Value) } : Obj)) (u := .tup []) fr
    have y := z _ _ (v :: (zs ++ [V.ref s.heap.objs.size])) (u :: (ws ++ [Value.ref s.heap.objs.size])) (env0_laid e0 new) lai rfl (fun e s' z => (show False from z).elim)
      (.cons ru (rz.append (.cons rfl .nil))) (by simp [hl]) ⟨_, fr, rfl, rfl⟩
    have ez : (p0 :: (ks ++ [pv])).zip (u :: (ws ++ [Value.ref s.heap.objs.size])) = (p0, u) :: (ks.zip ws ++ [(pv, Value.ref s.heap.objs.size)]) := by
      rw [List.zip_cons_cons, List.zip_append (hl.symm.trans rz.length)]
      rfl
    rw [ez] at y
    exact y
  · subst e1 e2
    exact hbody A outer s2 _ _ Q E0 hr' (h.2 p hp)
end UL
set_option Elab.async false
set_option linter.all false
set_option maxRecDepth 100000
set_option maxHeartbeats 4000000
namespace UL
open PySem PySem.Spec PyProof.Rows L2
open PySem.W (Looks Frag findIn clsIn InstAt)
/-! ### own operators beside a built-in type, own orders -/
/-- the class at C beside the built-in type T -/
structure OwnT (K : Frag) (C : Addr) (T nm : String) : Prop where
  sf : PySem.W.selfFirst K C = true
  r : ∃ rc, findIn K (.ref C) (dunderR nm) = some rc ∧ (rc = none ∨ ∃ g : Addr, rc = some (.ref g))
  t1 : ∃ fo, findIn K (.type T) (PySem.dunder nm) = some fo
  t2 : ∃ ro, findIn K (.type T) (dunderR nm) = some ro
  su : PySem.W.subIn K (.type T) (.ref C) = some false
theorem dr_add : dunderR "add" = ("__radd__" : Str) := by decide +kernel
theorem du_mul : PySem.dunder "mul" = ("__mul__" : Str) := by decide +kernel
section
variable {X : Cx} {CX : CXT} {C g : Addr} {n : Nat} {sp : Sp} {E : XK} {T : String}
/-- x op y by the def at g, x an instance, y of the built-in type T -/
def rOpT (C : Addr) (T : String) (sp : Sp) (E : XK) : R2 := fun x y H Q => ∃ (a dx : Addr) (fs : List (Str × V)), x = .ref a ∧ H a = some (.ins C dx fs) ∧ (∀ u, RelV y u → typeOf u = pure (.type T)) ∧ sp [x, y] H Q E
theorem op_ownT {op : Operator} (o : OwnT X.K C T op.info.2) (hs : findIn X.K (.ref C) (PySem.dunder op.info.2) = some (some (.ref g))) (hf : PySem.W.isFn X.K (.ref g) = true) (F : FnR X.prog X.w X.K X.mg X.base CX n g sp) (hr : Room n X.A) (hx : Passes CX X E) :
    OpR X (binaryOp op) (rOpT C T sp E) := by
  intro pins s σ H x y v u Q I rx ry h
  obtain ⟨a, dx, fs, rfl, ha, ty, q⟩ := h
  cases (show v = Value.ref a from rx)
  obtain ⟨mA, O, _⟩ := ins_get I.hok ha
  obtain ⟨od, J, _⟩ := O.look
  obtain ⟨m, hF⟩ := I.fr
  obtain ⟨rc, r1, r2⟩ := o.r
  obtain ⟨fo, t1⟩ := o.t1
  obtain ⟨ro, t2⟩ := o.t2
  refine PySem.W.ksp_binT hF I.ok.mod.kin J (ty u ry) o.sf hs hf r1 r2 t1 t2 o.su ?_
  refine wpAny_mono (wpAny_call (run_fnR (us := [.ref a, u]) (vs := [.ref a, y]) F hr hx I (.cons rfl (.cons ry .nil)) q)) (fun r s' z => ?_) fun _ _ e => e
  obtain ⟨z', H', I', rz, qz⟩ := z
  exact SlX.cmpback rz ⟨z', H', I', rz, qz⟩
/-- x + y by the reflected def at g, y an instance, x of the built-in type T, which doesn't add by number -/
def rOpTR (C : Addr) (T : String) (sp : Sp) (E : XK) : R2 := fun x y H Q => ∃ (a dx : Addr) (fs : List (Str × V)), y = .ref a ∧ H a = some (.ins C dx fs) ∧ (∀ u, RelV x u → typeOf u = pure (.type T)) ∧ sp [y, x] H Q E
theorem op_raddT {fa : Addr} {fo ro : Option Value} (sf : PySem.W.selfFirst X.K C = true) (ha' : findIn X.K (.ref C) "__add__" = some (some (.ref fa))) (t1 : findIn X.K (.type T) (PySem.dunder "add") = some fo) (t2 : findIn X.K (.type T) (dunderR "add") = some ro)
    (t3 : ((fo.isSome && !isSeqSlot fo) || (ro.isSome && !isSeqSlot ro)) = false) (hs : findIn X.K (.ref C) "__radd__" = some (some (.ref g))) (hf : PySem.W.isFn X.K (.ref g) = true) (F : FnR X.prog X.w X.K X.mg X.base CX n g sp) (hr : Room n X.A) (hx : Passes CX X E) :
    OpR X (binaryOp .Add) (rOpTR C T sp E) := by
  intro pins s σ H y x u v Q I ry rx h
  obtain ⟨a, dx, fs, rfl, ha, ty, q⟩ := h
  cases (show v = Value.ref a from rx)
  obtain ⟨mA, O, _⟩ := ins_get I.hok ha
  obtain ⟨od, J, _⟩ := O.look
  have KX := I.kIn
  obtain ⟨cd, rest, hcd, hm⟩ := PySem.W.ksp_first sf
  have fl := PySem.W.ksp_fillsT (M := model X.prog X.w) (nm := "add") KX t1 t2
  rw [t3] at fl
  have fr := PySem.W.fills_K (M := model X.prog X.w) (nm := "add") KX hcd hm (by rw [du_add]; exact ha')
  have one : wpAny (model X.prog X.w) X.A (tryMethod (.ref a) (dunderR "add") u) (fun r s' => ∃ z, r = some z ∧ EP X pins σ Q z s') X.xe s := by
    rw [dr_add]
    refine PySem.W.ksp_try KX J hs hf (wpAny_mono (wpAny_call (run_fnR (us := [.ref a, u]) (vs := [.ref a, y]) F hr hx I (.cons rfl (.cons ry .nil)) q)) (fun r s' z => ?_) fun _ _ e => e)
    obtain ⟨z', H', I', rz, qz⟩ := z
    exact SlX.cmpback rz ⟨z', H', I', rz, qz⟩
  have ne : (Value.type T == Value.ref C) = false := Bool.eq_false_iff.mpr fun q => by cases beq_iff_eq.mp q
  have lt : Looks (model X.prog X.w) s.heap (typeOf u) (.type T) := Looks.of_pure (ty u ry)
  unfold binaryOp
  refine wpAny_holding (wpAny_bind ?_)
  show wpAny _ _ (binaryOp1 "add" u (.ref a)) _ _ _
  unfold binaryOp1
  refine wpAny_bind (lt.here (wpAny_bind (J.type.here (wpAny_bind (fl.here ?_)))))
  simp only [ne, Bool.false_eq_true, if_false, Bool.false_and]
  refine wpAny_bind (fr.here ?_)
  refine wpAny_bind (wpAny_pure ?_)
  simp only [Bool.false_eq_true, if_false, Bool.not_false, Bool.and_true, if_true]
  refine wpAny_bind (wpAny_mono one (fun r s' ⟨z, e, qz⟩ => ?_) fun _ _ e => e)
  subst e
  dsimp only
  refine wpAny_bind (wpAny_rule ?_)
  exact wpAny_pure (wpAny_pure qz)
/-- x < y and the like by the def at g -/
def rCmpI (K : Frag) (C : Addr) (sp : Sp) (E : XK) : R2 := rEqI K C sp E
theorem op_cmpI {op : CmpOp} (hop : ∀ u v : Value, compareOp op u v = richCompare op u v) (hs : findIn X.K (.ref C) (cmpInfo op).2.1 = some (some (.ref g))) (hf : PySem.W.isFn X.K (.ref g) = true) (F : FnR X.prog X.w X.K X.mg X.base CX n g sp) (hr : Room n X.A) (hx : Passes CX X E) :
    OpR X (compareOp op) (rEqI X.K C sp E) := by
  intro pins s σ H x y v u Q I rx ry h
  obtain ⟨a, dx, fs, t, rfl, ha, ty, hn, q⟩ := h
  cases (show v = Value.ref a from rx)
  obtain ⟨mA, O, _⟩ := ins_get I.hok ha
  obtain ⟨od, J, _⟩ := O.look
  obtain ⟨m, hF⟩ := I.fr
  obtain ⟨Pk, Z, pk, _⟩ := kit_of I ry ty
  rw [hop]
  refine PySem.W.cmp_K (op := op) hr.units0 hF I.ok.mod.kin J (Z.ty _ _ I.kIn pk) hn hs hf ?_
  refine wpAny_mono (wpAny_call (run_fnR (us := [.ref a, u]) (vs := [.ref a, y]) F hr hx I (.cons rfl (.cons ry .nil)) q)) (fun r s' z => ?_) fun _ _ e => e
  obtain ⟨z', H', I', rz, qz⟩ := z
  exact SlX.cmpback rz ⟨z', H', I', rz, qz⟩
end
section
variable {X : Cx} {C : Addr} {k j : Nat} {sp : Sp} {T : String}
theorem op_ltS (c : CalS X.prog X.w X.K X.mg X.base k C "__lt__" sp) (hr : Room j X.A) (hk : k ≤ j) : OpR X (compareOp .Lt) (rEqI X.K C sp E0) := by
  obtain ⟨f, F, h1, h2⟩ := c
  exact op_cmpI (fun _ _ => rfl) h1 h2 F (hr.mono hk) pass0
theorem op_leS (c : CalS X.prog X.w X.K X.mg X.base k C "__le__" sp) (hr : Room j X.A) (hk : k ≤ j) : OpR X (compareOp .LtE) (rEqI X.K C sp E0) := by
  obtain ⟨f, F, h1, h2⟩ := c
  exact op_cmpI (fun _ _ => rfl) h1 h2 F (hr.mono hk) pass0
theorem op_gtS (c : CalS X.prog X.w X.K X.mg X.base k C "__gt__" sp) (hr : Room j X.A) (hk : k ≤ j) : OpR X (compareOp .Gt) (rEqI X.K C sp E0) := by
  obtain ⟨f, F, h1, h2⟩ := c
  exact op_cmpI (fun _ _ => rfl) h1 h2 F (hr.mono hk) pass0
theorem op_geS (c : CalS X.prog X.w X.K X.mg X.base k C "__ge__" sp) (hr : Room j X.A) (hk : k ≤ j) : OpR X (compareOp .GtE) (rEqI X.K C sp E0) := by
  obtain ⟨f, F, h1, h2⟩ := c
  exact op_cmpI (fun _ _ => rfl) h1 h2 F (hr.mono hk) pass0
theorem op_addST (c : CalS X.prog X.w X.K X.mg X.base k C "__add__" sp) (o : OwnT X.K C T "add") (hr : Room j X.A) (hk : k ≤ j) : OpR X (binaryOp .Add) (rOpT C T sp E0) := by
  obtain ⟨f, F, h1, h2⟩ := c
  exact op_ownT (op := .Add) o (by show findIn X.K (.ref C) (PySem.dunder "add") = _; rw [du_add]; exact h1) h2 F (hr.mono hk) pass0
theorem op_mulST (c : CalS X.prog X.w X.K X.mg X.base k C "__mul__" sp) (o : OwnT X.K C T "mul") (hr : Room j X.A) (hk : k ≤ j) : OpR X (binaryOp .Mult) (rOpT C T sp E0) := by
  obtain ⟨f, F, h1, h2⟩ := c
  exact op_ownT (op := .Mult) o (by show findIn X.K (.ref C) (PySem.dunder "mul") = _; rw [du_mul]; exact h1) h2 F (hr.mono hk) pass0
/-- what is asked where the instance stands on the right of + -/
structure RadT (K : Frag) (C : Addr) (T : String) : Prop where
  sf : PySem.W.selfFirst K C = true
  ad : ∃ fa : Addr, findIn K (.ref C) "__add__" = some (some (.ref fa))
  t : ∃ fo ro, findIn K (.type T) (PySem.dunder "add") = some fo ∧ findIn K (.type T) (dunderR "add") = some ro ∧ ((fo.isSome && !isSeqSlot fo) || (ro.isSome && !isSeqSlot ro)) = false
theorem op_raddS (c : CalS X.prog X.w X.K X.mg X.base k C "__radd__" sp) (o : RadT X.K C T) (hr : Room j X.A) (hk : k ≤ j) : OpR X (binaryOp .Add) (rOpTR C T sp E0) := by
  obtain ⟨f, F, h1, h2⟩ := c
  obtain ⟨fa, ha⟩ := o.ad
  obtain ⟨fo, ro, t1, t2, t3⟩ := o.t
  exact op_raddT o.sf ha t1 t2 t3 h1 h2 F (hr.mono hk) pass0
theorem ty_str {x : Str} : ∀ u, RelV (.str x) u → typeOf u = pure (.type "str") := fun u ⟨t, e⟩ => by subst e; rfl
end
end UL
set_option Elab.async false
set_option linter.all false
set_option maxRecDepth 100000
set_option maxHeartbeats 4000000
namespace GQ
open PySem PySem.SeqAt
open AutoSeq1 (wpAny_loadPart')
open MeetsSeq MeetsSeq2 MeetsSeq3 SeqRoads2
open Ob (RcOp lexAt lexAt_zero lexAt_succ)
/-! ### the four orders of lists: the first place that differs decides -/
/-- two lists lie there -/
def TwoL (s : Shared) (l b : Addr) (xs ys : Array Value) (n m : Nat) (d1 d2 : Option Addr) (sl sm : Array (Option Value)) : Prop :=
  s.heap.get? l = some { cls := .type "list", dict := d1, data := .seq xs n, slots := sl } ∧ s.heap.get? b = some { cls := .type "list", dict := d2, data := .seq ys m, slots := sm }
theorem lt_from (l b : Addr) (xs ys : Array Value) (n m : Nat) (d1 d2 : Option Addr) (sl sm : Array (Option Value)) (e r : Nat → Bool) (k : Nat) : ∀ i : Nat, min xs.size ys.size - i = k →
    Meets (Builtin.«list.__eq__.loop» ⟨[.ref l, .ref b, rawInt i, rawInt 0], []⟩) (fun A R s => TwoL s l b xs ys n m d1 d2 sl sm ∧
      (∀ j (h1 : j < xs.size) (h2 : j < ys.size), EqAt A.in1 s xs[j] ys[j] (e j)) ∧ (∀ j (h1 : j < xs.size) (h2 : j < ys.size), e j = false → RcOp .Lt A.in1 s xs[j] ys[j] (r j)) ∧
      R (.ok (.ret (.bool (lexAt e r (decide (xs.size < ys.size)) i k)))) s) := by
  induction k with
  | zero =>
    intro i hk prog w A R s ⟨⟨hl, hb⟩, he, hr, hR⟩
    obtain ⟨hp, g, d, tk, os⟩ := s
    rw [lexAt_zero] at hR
    wp_walk using wpAny_loadPart' hl, wpAny_loadPart' hb
    by_cases c : xs.size ≤ i
    · rw [show xs[((i : Nat) : Int).toNat]? = none by simp; omega]
      wp_walk using wpAny_loadPart' hl, wpAny_loadPart' hb
      exact hR
    · rw [show xs[((i : Nat) : Int).toNat]? = some (xs[i]'(by omega)) by simp, show ys[((i : Nat) : Int).toNat]? = none by simp; omega]
      wp_walk using wpAny_loadPart' hl, wpAny_loadPart' hb
      exact hR
  | succ k ih =>
    intro i hk prog w A R s ⟨⟨hl, hb⟩, he, hr, hR⟩
    obtain ⟨hp, g, d, tk, os⟩ := s
    have p1 : i < xs.size := by omega
    have p2 : i < ys.size := by omega
    have q1 : xs[((i : Nat) : Int).toNat]? = some xs[i] := by simp [p1]
    have q2 : ys[((i : Nat) : Int).toNat]? = some ys[i] := by simp [p2]
    rw [lexAt_succ] at hR
    wp_walk using wpAny_loadPart' hl, wpAny_loadPart' hb
    rw [q1, q2]
    refine wpAny_bind (he i p1 p2 prog w _ _ ?_)
    cases c : e i with
    | true =>
      rw [if_pos c] at hR
      wp_walk
      rw [show ((i : Int) + 1) = ((i + 1 : Nat) : Int) by push_cast; rfl]
      refine ⟨plainId_quiet plain_eq_loop _, codeAny_builtin entry_eq_loop ?_⟩
      rw [Around.under_plainId plain_eq_loop _]
      exact ih (i + 1) (by omega) prog w A R _ ⟨⟨hl, hb⟩, he, hr, hR⟩
    | false =>
      rw [if_neg (by rw [c]; exact Bool.false_ne_true)] at hR
      wp_walk using wpAny_loadPart' hl, wpAny_loadPart' hb
      rw [q1, q2]
      repeat (first | refine hr i p1 p2 c prog w _ _ ?_ | wp_step)
      wp_walk
      exact hR
theorem lists_lt {A : Around} {s : Shared} {l b : Addr} {xs ys : Array Value} {e r : Nat → Bool} (hl : s.heap.IsList l xs) (hb : s.heap.IsList b ys) (hu : A.units < cLine) (he : ∀ j (h1 : j < xs.size) (h2 : j < ys.size), EqAt A.in1 s xs[j] ys[j] (e j))
    (hr : ∀ j (h1 : j < xs.size) (h2 : j < ys.size), e j = false → RcOp .Lt A.in1 s xs[j] ys[j] (r j)) : RcOp .Lt A s (.ref l) (.ref b) (lexAt e r (decide (xs.size < ys.size)) 0 (min xs.size ys.size)) := fun prog w E Q hq => by
  obtain ⟨⟨c1, d1, w1, sl⟩, ho, z1, n, v1⟩ := id hl
  obtain ⟨⟨c2, d2, w2, sm⟩, hp, z2, m, v2⟩ := id hb
  simp only at z1 v1 z2 v2
  subst z1 v1 z2 v2
  have go : Meets (Builtin.«list.__lt__» ⟨[.ref l, .ref b], []⟩) (fun A R s => TwoL s l b xs ys n m d1 d2 sl sm ∧
      (∀ j (h1 : j < xs.size) (h2 : j < ys.size), EqAt A.in1 s xs[j] ys[j] (e j)) ∧ (∀ j (h1 : j < xs.size) (h2 : j < ys.size), e j = false → RcOp .Lt A.in1 s xs[j] ys[j] (r j)) ∧
      R (.ok (.ret (.bool (lexAt e r (decide (xs.size < ys.size)) 0 (min xs.size ys.size))))) s) := by
    intro prog w A R s ⟨⟨hl, hb⟩, he, hr, hR⟩
    obtain ⟨hp, g, d, tk, os⟩ := s
    have f3 := AutoSeq1.sub_list_list
    wp_walk using wpAny_loadPart' hl, wpAny_loadPart' hb
    refine ⟨plainId_quiet plain_eq_loop _, codeAny_builtin entry_eq_loop ?_⟩
    rw [Around.under_plainId plain_eq_loop _]
    exact lt_from l b xs ys n m d1 d2 sl sm e r _ 0 (by simp) prog w A R _ ⟨⟨hl, hb⟩, he, hr, hR⟩
  exact richCompare_meets_room (op := .Lt) ⟨_, ho, rfl⟩ ⟨_, hp, rfl⟩ F.slot_list_lt F.entry_list_lt (F.args_list_lt_2 _ _) go ⟨⟨ho, hp⟩, he, hr, (fun x => nomatch x), hq⟩ hu
theorem le_from (l b : Addr) (xs ys : Array Value) (n m : Nat) (d1 d2 : Option Addr) (sl sm : Array (Option Value)) (e r : Nat → Bool) (k : Nat) : ∀ i : Nat, min xs.size ys.size - i = k →
    Meets (Builtin.«list.__eq__.loop» ⟨[.ref l, .ref b, rawInt i, rawInt 1], []⟩) (fun A R s => TwoL s l b xs ys n m d1 d2 sl sm ∧
      (∀ j (h1 : j < xs.size) (h2 : j < ys.size), EqAt A.in1 s xs[j] ys[j] (e j)) ∧ (∀ j (h1 : j < xs.size) (h2 : j < ys.size), e j = false → RcOp .LtE A.in1 s xs[j] ys[j] (r j)) ∧
      R (.ok (.ret (.bool (lexAt e r (decide (xs.size ≤ ys.size)) i k)))) s) := by
  induction k with
  | zero =>
    intro i hk prog w A R s ⟨⟨hl, hb⟩, he, hr, hR⟩
    obtain ⟨hp, g, d, tk, os⟩ := s
    rw [lexAt_zero] at hR
    wp_walk using wpAny_loadPart' hl, wpAny_loadPart' hb
    by_cases c : xs.size ≤ i
    · rw [show xs[((i : Nat) : Int).toNat]? = none by simp; omega]
      wp_walk using wpAny_loadPart' hl, wpAny_loadPart' hb
      exact hR
    · rw [show xs[((i : Nat) : Int).toNat]? = some (xs[i]'(by omega)) by simp, show ys[((i : Nat) : Int).toNat]? = none by simp; omega]
      wp_walk using wpAny_loadPart' hl, wpAny_loadPart' hb
      exact hR
  | succ k ih =>
    intro i hk prog w A R s ⟨⟨hl, hb⟩, he, hr, hR⟩
    obtain ⟨hp, g, d, tk, os⟩ := s
    have p1 : i < xs.size := by omega
    have p2 : i < ys.size := by omega
    have q1 : xs[((i : Nat) : Int).toNat]? = some xs[i] := by simp [p1]
    have q2 : ys[((i : Nat) : Int).toNat]? = some ys[i] := by simp [p2]
    rw [lexAt_succ] at hR
    wp_walk using wpAny_loadPart' hl, wpAny_loadPart' hb
    rw [q1, q2]
    refine wpAny_bind (he i p1 p2 prog w _ _ ?_)
    cases c : e i with
    | true =>
      rw [if_pos c] at hR
      wp_walk
      rw [show ((i : Int) + 1) = ((i + 1 : Nat) : Int) by push_cast; rfl]
      refine ⟨plainId_quiet plain_eq_loop _, codeAny_builtin entry_eq_loop ?_⟩
      rw [Around.under_plainId plain_eq_loop _]
      exact ih (i + 1) (by omega) prog w A R _ ⟨⟨hl, hb⟩, he, hr, hR⟩
    | false =>
      rw [if_neg (by rw [c]; exact Bool.false_ne_true)] at hR
      wp_walk using wpAny_loadPart' hl, wpAny_loadPart' hb
      rw [q1, q2]
      repeat (first | refine hr i p1 p2 c prog w _ _ ?_ | wp_step)
      wp_walk
      exact hR
theorem lists_le {A : Around} {s : Shared} {l b : Addr} {xs ys : Array Value} {e r : Nat → Bool} (hl : s.heap.IsList l xs) (hb : s.heap.IsList b ys) (hu : A.units < cLine) (he : ∀ j (h1 : j < xs.size) (h2 : j < ys.size), EqAt A.in1 s xs[j] ys[j] (e j))
    (hr : ∀ j (h1 : j < xs.size) (h2 : j < ys.size), e j = false → RcOp .LtE A.in1 s xs[j] ys[j] (r j)) : RcOp .LtE A s (.ref l) (.ref b) (lexAt e r (decide (xs.size ≤ ys.size)) 0 (min xs.size ys.size)) := fun prog w E Q hq => by
  obtain ⟨⟨c1, d1, w1, sl⟩, ho, z1, n, v1⟩ := id hl
  obtain ⟨⟨c2, d2, w2, sm⟩, hp, z2, m, v2⟩ := id hb
  simp only at z1 v1 z2 v2
  subst z1 v1 z2 v2
  have go : Meets (Builtin.«list.__le__» ⟨[.ref l, .ref b], []⟩) (fun A R s => TwoL s l b xs ys n m d1 d2 sl sm ∧
      (∀ j (h1 : j < xs.size) (h2 : j < ys.size), EqAt A.in1 s xs[j] ys[j] (e j)) ∧ (∀ j (h1 : j < xs.size) (h2 : j < ys.size), e j = false → RcOp .LtE A.in1 s xs[j] ys[j] (r j)) ∧
      R (.ok (.ret (.bool (lexAt e r (decide (xs.size ≤ ys.size)) 0 (min xs.size ys.size))))) s) := by
    intro prog w A R s ⟨⟨hl, hb⟩, he, hr, hR⟩
    obtain ⟨hp, g, d, tk, os⟩ := s
    have f3 := AutoSeq1.sub_list_list
    wp_walk using wpAny_loadPart' hl, wpAny_loadPart' hb
    refine ⟨plainId_quiet plain_eq_loop _, codeAny_builtin entry_eq_loop ?_⟩
    rw [Around.under_plainId plain_eq_loop _]
    exact le_from l b xs ys n m d1 d2 sl sm e r _ 0 (by simp) prog w A R _ ⟨⟨hl, hb⟩, he, hr, hR⟩
  exact richCompare_meets_room (op := .LtE) ⟨_, ho, rfl⟩ ⟨_, hp, rfl⟩ F.slot_list_le F.entry_list_le (F.args_list_le_2 _ _) go ⟨⟨ho, hp⟩, he, hr, (fun x => nomatch x), hq⟩ hu
theorem gt_from (l b : Addr) (xs ys : Array Value) (n m : Nat) (d1 d2 : Option Addr) (sl sm : Array (Option Value)) (e r : Nat → Bool) (k : Nat) : ∀ i : Nat, min xs.size ys.size - i = k →
    Meets (Builtin.«list.__eq__.loop» ⟨[.ref l, .ref b, rawInt i, rawInt 4], []⟩) (fun A R s => TwoL s l b xs ys n m d1 d2 sl sm ∧
      (∀ j (h1 : j < xs.size) (h2 : j < ys.size), EqAt A.in1 s xs[j] ys[j] (e j)) ∧ (∀ j (h1 : j < xs.size) (h2 : j < ys.size), e j = false → RcOp .Gt A.in1 s xs[j] ys[j] (r j)) ∧
      R (.ok (.ret (.bool (lexAt e r (decide (ys.size < xs.size)) i k)))) s) := by
  induction k with
  | zero =>
    intro i hk prog w A R s ⟨⟨hl, hb⟩, he, hr, hR⟩
    obtain ⟨hp, g, d, tk, os⟩ := s
    rw [lexAt_zero] at hR
    wp_walk using wpAny_loadPart' hl, wpAny_loadPart' hb
    by_cases c : xs.size ≤ i
    · rw [show xs[((i : Nat) : Int).toNat]? = none by simp; omega]
      wp_walk using wpAny_loadPart' hl, wpAny_loadPart' hb
      exact hR
    · rw [show xs[((i : Nat) : Int).toNat]? = some (xs[i]'(by omega)) by simp, show ys[((i : Nat) : Int).toNat]? = none by simp; omega]
      wp_walk using wpAny_loadPart' hl, wpAny_loadPart' hb
      exact hR
  | succ k ih =>
    intro i hk prog w A R s ⟨⟨hl, hb⟩, he, hr, hR⟩
    obtain ⟨hp, g, d, tk, os⟩ := s
    have p1 : i < xs.size := by omega
    have p2 : i < ys.size := by omega
    have q1 : xs[((i : Nat) : Int).toNat]? = some xs[i] := by simp [p1]
    have q2 : ys[((i : Nat) : Int).toNat]? = some ys[i] := by simp [p2]
    rw [lexAt_succ] at hR
    wp_walk using wpAny_loadPart' hl, wpAny_loadPart' hb
    rw [q1, q2]
    refine wpAny_bind (he i p1 p2 prog w _ _ ?_)
    cases c : e i with
    | true =>
      rw [if_pos c] at hR
      wp_walk
      rw [show ((i : Int) + 1) = ((i + 1 : Nat) : Int) by push_cast; rfl]
      refine ⟨plainId_quiet plain_eq_loop _, codeAny_builtin entry_eq_loop ?_⟩
      rw [Around.under_plainId plain_eq_loop _]
      exact ih (i + 1) (by omega) prog w A R _ ⟨⟨hl, hb⟩, he, hr, hR⟩
    | false =>
      rw [if_neg (by rw [c]; exact Bool.false_ne_true)] at hR
      wp_walk using wpAny_loadPart' hl, wpAny_loadPart' hb
      rw [q1, q2]
      repeat (first | refine hr i p1 p2 c prog w _ _ ?_ | wp_step)
      wp_walk
      exact hR
theorem lists_gt {A : Around} {s : Shared} {l b : Addr} {xs ys : Array Value} {e r : Nat → Bool} (hl : s.heap.IsList l xs) (hb : s.heap.IsList b ys) (hu : A.units < cLine) (he : ∀ j (h1 : j < xs.size) (h2 : j < ys.size), EqAt A.in1 s xs[j] ys[j] (e j))
    (hr : ∀ j (h1 : j < xs.size) (h2 : j < ys.size), e j = false → RcOp .Gt A.in1 s xs[j] ys[j] (r j)) : RcOp .Gt A s (.ref l) (.ref b) (lexAt e r (decide (ys.size < xs.size)) 0 (min xs.size ys.size)) := fun prog w E Q hq => by
  obtain ⟨⟨c1, d1, w1, sl⟩, ho, z1, n, v1⟩ := id hl
  obtain ⟨⟨c2, d2, w2, sm⟩, hp, z2, m, v2⟩ := id hb
  simp only at z1 v1 z2 v2
  subst z1 v1 z2 v2
  have go : Meets (Builtin.«list.__gt__» ⟨[.ref l, .ref b], []⟩) (fun A R s => TwoL s l b xs ys n m d1 d2 sl sm ∧
      (∀ j (h1 : j < xs.size) (h2 : j < ys.size), EqAt A.in1 s xs[j] ys[j] (e j)) ∧ (∀ j (h1 : j < xs.size) (h2 : j < ys.size), e j = false → RcOp .Gt A.in1 s xs[j] ys[j] (r j)) ∧
      R (.ok (.ret (.bool (lexAt e r (decide (ys.size < xs.size)) 0 (min xs.size ys.size))))) s) := by
    intro prog w A R s ⟨⟨hl, hb⟩, he, hr, hR⟩
    obtain ⟨hp, g, d, tk, os⟩ := s
    have f3 := AutoSeq1.sub_list_list
    wp_walk using wpAny_loadPart' hl, wpAny_loadPart' hb
    refine ⟨plainId_quiet plain_eq_loop _, codeAny_builtin entry_eq_loop ?_⟩
    rw [Around.under_plainId plain_eq_loop _]
    exact gt_from l b xs ys n m d1 d2 sl sm e r _ 0 (by simp) prog w A R _ ⟨⟨hl, hb⟩, he, hr, hR⟩
  exact richCompare_meets_room (op := .Gt) ⟨_, ho, rfl⟩ ⟨_, hp, rfl⟩ F.slot_list_gt F.entry_list_gt (F.args_list_gt_2 _ _) go ⟨⟨ho, hp⟩, he, hr, (fun x => nomatch x), hq⟩ hu
theorem ge_from (l b : Addr) (xs ys : Array Value) (n m : Nat) (d1 d2 : Option Addr) (sl sm : Array (Option Value)) (e r : Nat → Bool) (k : Nat) : ∀ i : Nat, min xs.size ys.size - i = k →
    Meets (Builtin.«list.__eq__.loop» ⟨[.ref l, .ref b, rawInt i, rawInt 5], []⟩) (fun A R s => TwoL s l b xs ys n m d1 d2 sl sm ∧
      (∀ j (h1 : j < xs.size) (h2 : j < ys.size), EqAt A.in1 s xs[j] ys[j] (e j)) ∧ (∀ j (h1 : j < xs.size) (h2 : j < ys.size), e j = false → RcOp .GtE A.in1 s xs[j] ys[j] (r j)) ∧
      R (.ok (.ret (.bool (lexAt e r (decide (ys.size ≤ xs.size)) i k)))) s) := by
  induction k with
  | zero =>
    intro i hk prog w A R s ⟨⟨hl, hb⟩, he, hr, hR⟩
    obtain ⟨hp, g, d, tk, os⟩ := s
    rw [lexAt_zero] at hR
    wp_walk using wpAny_loadPart' hl, wpAny_loadPart' hb
    by_cases c : xs.size ≤ i
    · rw [show xs[((i : Nat) : Int).toNat]? = none by simp; omega]
      wp_walk using wpAny_loadPart' hl, wpAny_loadPart' hb
      exact hR
    · rw [show xs[((i : Nat) : Int).toNat]? = some (xs[i]'(by omega)) by simp, show ys[((i : Nat) : Int).toNat]? = none by simp; omega]
      wp_walk using wpAny_loadPart' hl, wpAny_loadPart' hb
      exact hR
  | succ k ih =>
    intro i hk prog w A R s ⟨⟨hl, hb⟩, he, hr, hR⟩
    obtain ⟨hp, g, d, tk, os⟩ := s
    have p1 : i < xs.size := by omega
    have p2 : i < ys.size := by omega
    have q1 : xs[((i : Nat) : Int).toNat]? = some xs[i] := by simp [p1]
    have q2 : ys[((i : Nat) : Int).toNat]? = some ys[i] := by simp [p2]
    rw [lexAt_succ] at hR
    wp_walk using wpAny_loadPart' hl, wpAny_loadPart' hb
    rw [q1, q2]
    refine wpAny_bind (he i p1 p2 prog w _ _ ?_)
    cases c : e i with
    | true =>
      rw [if_pos c] at hR
      wp_walk
      rw [show ((i : Int) + 1) = ((i + 1 : Nat) : Int) by push_cast; rfl]
      refine ⟨plainId_quiet plain_eq_loop _, codeAny_builtin entry_eq_loop ?_⟩
      rw [Around.under_plainId plain_eq_loop _]
      exact ih (i + 1) (by omega) prog w A R _ ⟨⟨hl, hb⟩, he, hr, hR⟩
    | false =>
      rw [if_neg (by rw [c]; exact Bool.false_ne_true)] at hR
      wp_walk using wpAny_loadPart' hl, wpAny_loadPart' hb
      rw [q1, q2]
      repeat (first | refine hr i p1 p2 c prog w _ _ ?_ | wp_step)
      wp_walk
      exact hR
theorem lists_ge {A : Around} {s : Shared} {l b : Addr} {xs ys : Array Value} {e r : Nat → Bool} (hl : s.heap.IsList l xs) (hb : s.heap.IsList b ys) (hu : A.units < cLine) (he : ∀ j (h1 : j < xs.size) (h2 : j < ys.size), EqAt A.in1 s xs[j] ys[j] (e j))
    (hr : ∀ j (h1 : j < xs.size) (h2 : j < ys.size), e j = false → RcOp .GtE A.in1 s xs[j] ys[j] (r j)) : RcOp .GtE A s (.ref l) (.ref b) (lexAt e r (decide (ys.size ≤ xs.size)) 0 (min xs.size ys.size)) := fun prog w E Q hq => by
  obtain ⟨⟨c1, d1, w1, sl⟩, ho, z1, n, v1⟩ := id hl
  obtain ⟨⟨c2, d2, w2, sm⟩, hp, z2, m, v2⟩ := id hb
  simp only at z1 v1 z2 v2
  subst z1 v1 z2 v2
  have go : Meets (Builtin.«list.__ge__» ⟨[.ref l, .ref b], []⟩) (fun A R s => TwoL s l b xs ys n m d1 d2 sl sm ∧
      (∀ j (h1 : j < xs.size) (h2 : j < ys.size), EqAt A.in1 s xs[j] ys[j] (e j)) ∧ (∀ j (h1 : j < xs.size) (h2 : j < ys.size), e j = false → RcOp .GtE A.in1 s xs[j] ys[j] (r j)) ∧
      R (.ok (.ret (.bool (lexAt e r (decide (ys.size ≤ xs.size)) 0 (min xs.size ys.size))))) s) := by
    intro prog w A R s ⟨⟨hl, hb⟩, he, hr, hR⟩
    obtain ⟨hp, g, d, tk, os⟩ := s
    have f3 := AutoSeq1.sub_list_list
    wp_walk using wpAny_loadPart' hl, wpAny_loadPart' hb
    refine ⟨plainId_quiet plain_eq_loop _, codeAny_builtin entry_eq_loop ?_⟩
    rw [Around.under_plainId plain_eq_loop _]
    exact ge_from l b xs ys n m d1 d2 sl sm e r _ 0 (by simp) prog w A R _ ⟨⟨hl, hb⟩, he, hr, hR⟩
  exact richCompare_meets_room (op := .GtE) ⟨_, ho, rfl⟩ ⟨_, hp, rfl⟩ F.slot_list_ge F.entry_list_ge (F.args_list_ge_2 _ _) go ⟨⟨ho, hp⟩, he, hr, (fun x => nomatch x), hq⟩ hu
end GQ
set_option Elab.async false
set_option linter.all false
set_option maxRecDepth 100000
set_option maxHeartbeats 4000000
namespace UL
open PySem PySem.Spec PyProof.Rows L2 PySem.SeqAt
open Ob (RcOp lexAt lexAt_zero lexAt_succ)
/-! ### the orders of nested lists and tuples of whole numbers -/
def opI : CmpOp → Int → Int → Bool
  | .Lt, a, b => decide (a < b)
  | .LtE, a, b => decide (a ≤ b)
  | .Gt, a, b => decide (b < a)
  | .GtE, a, b => decide (b ≤ a)
  | _, _, _ => false
def opN : CmpOp → Nat → Nat → Bool
  | .Lt, a, b => decide (a < b)
  | .LtE, a, b => decide (a ≤ b)
  | .Gt, a, b => decide (b < a)
  | .GtE, a, b => decide (b ≤ a)
  | _, _, _ => false
mutual
def ordV (o : CmpOp) : PyData → PyData → Bool
  | .int a, .int b => opI o a b
  | .list xs, .list ys => ordL o (opN o xs.length ys.length) xs ys
  | .tuple xs, .tuple ys => ordL o (opN o xs.length ys.length) xs ys
  | _, _ => false
def ordL (o : CmpOp) (z : Bool) : List PyData → List PyData → Bool
  | x :: xs, y :: ys => if PyData.eqv x y = true then ordL o z xs ys else ordV o x y
  | [], _ => z
  | _ :: _, [] => z
end
mutual
/-- they can be ordered: whole numbers where they first differ -/
def ordOk : PyData → PyData → Bool
  | .int _, .int _ => true
  | .list xs, .list ys => ordOkL xs ys
  | .tuple xs, .tuple ys => ordOkL xs ys
  | _, _ => false
def ordOkL : List PyData → List PyData → Bool
  | x :: xs, y :: ys => (PyData.eqv x y || ordOk x y) && ordOkL xs ys
  | [], _ => true
  | _ :: _, [] => true
end
inductive IsOrd : CmpOp → Prop
  | lt : IsOrd .Lt
  | le : IsOrd .LtE
  | gt : IsOrd .Gt
  | ge : IsOrd .GtE
theorem rc_int {o : CmpOp} (ho : IsOrd o) {A : Around} {s : Shared} (a b : Int) (t u : Tok) : RcOp o A s (.int a t) (.int b u) (opI o a b) := by
  cases ho
  · exact RcOp.lt_int a b t u
  · exact RcOp.le_int a b t u
  · exact RcOp.gt_int a b t u
  · exact RcOp.ge_int a b t u
theorem rc_lists {o : CmpOp} (ho : IsOrd o) {A : Around} {s : Shared} {l b : Addr} {xs ys : Array Value} {e r : Nat → Bool} (hl : s.heap.IsList l xs) (hb : s.heap.IsList b ys) (hu : A.units < cLine) (he : ∀ j (h1 : j < xs.size) (h2 : j < ys.size), EqAt A.in1 s xs[j] ys[j] (e j))
    (hr : ∀ j (h1 : j < xs.size) (h2 : j < ys.size), e j = false → RcOp o A.in1 s xs[j] ys[j] (r j)) : RcOp o A s (.ref l) (.ref b) (lexAt e r (opN o xs.size ys.size) 0 (min xs.size ys.size)) := by
  cases ho
  · exact GQ.lists_lt hl hb hu he hr
  · exact GQ.lists_le hl hb hu he hr
  · exact GQ.lists_gt hl hb hu he hr
  · exact GQ.lists_ge hl hb hu he hr
theorem rc_tups {o : CmpOp} (ho : IsOrd o) {A : Around} {s : Shared} {l b : Addr} {xs ys : Array Value} {e r : Nat → Bool} (hl : s.heap.IsTuple l xs) (hb : s.heap.IsTuple b ys) (hu : A.units < cLine) (he : ∀ j (h1 : j < xs.size) (h2 : j < ys.size), EqAt A.in1 s xs[j] ys[j] (e j))
    (hr : ∀ j (h1 : j < xs.size) (h2 : j < ys.size), e j = false → RcOp o A.in1 s xs[j] ys[j] (r j)) : RcOp o A s (.ref l) (.ref b) (lexAt e r (opN o xs.size ys.size) 0 (min xs.size ys.size)) := by
  cases ho
  · exact RcOp.tuples_lt hl hb hu he hr
  · exact RcOp.tuples_le hl hb hu he hr
  · exact RcOp.tuples_gt hl hb hu he hr
  · exact RcOp.tuples_ge hl hb hu he hr
theorem lex_ordL {o : CmpOp} {z : Bool} {e r : Nat → Bool} : ∀ (xs ys : List PyData) (i : Nat), (∀ j, e (i + j) = pairEq xs ys j) → (∀ j, j < min xs.length ys.length → r (i + j) = ordV o (xs.getD j .none) (ys.getD j .none)) →
    lexAt e r z i (min xs.length ys.length) = ordL o z xs ys
  | [], ys, i, _, _ => by
    rw [show min ([] : List PyData).length ys.length = 0 by simp, lexAt_zero]
    cases ys <;> simp [ordL]
  | x :: xs, [], i, _, _ => by
    rw [show min (x :: xs).length ([] : List PyData).length = 0 by simp, lexAt_zero]
    simp [ordL]
  | x :: xs, y :: ys, i, he, hr => by
    rw [show min (x :: xs).length (y :: ys).length = min xs.length ys.length + 1 by simp only [List.length_cons]; omega, lexAt_succ]
    have e0 := he 0
    have r0 := hr 0 (by simp only [List.length_cons]; omega)
    rw [Nat.add_zero] at e0 r0
    rw [e0, r0, lex_ordL xs ys (i + 1) (fun j => by rw [show i + 1 + j = i + (j + 1) by omega, he (j + 1)]; rfl) (fun j hj => by
      rw [show i + 1 + j = i + (j + 1) by omega, hr (j + 1) (by simp only [List.length_cons]; omega)]; rfl)]
    rw [ordL]
    rfl
theorem ra_len {h : Heap} : ∀ {vs : List Value} {ds : List PyData} {as : List Addr}, ReadsAll h vs ds as → vs.length = ds.length
  | _, _, _, .nil => rfl
  | _, _, _, .cons _ t => congrArg (· + 1) (ra_len t)
mutual
theorem rc_data {o : CmpOp} (ho : IsOrd o) : ∀ (d e : PyData) (A : Around) (s : Shared) (u v : Value) (as bs : List Addr), Reads s.heap u d as → Reads s.heap v e bs → ordOk d e = true → d.canLay0 = true → e.canLay0 = true → A.units + d.depth < cLine →
    RcOp o A s u v (ordV o d e)
  | .int a, e, A, s, _, _, _, _, r1, r2, h, _, _, hu => by
    cases e <;> simp only [ordOk, Bool.false_eq_true] at h
    cases r1
    cases r2
    rw [ordV]
    exact rc_int ho _ _ _ _
  | .list xs, e, A, s, _, _, _, _, r1, r2, h, l1, l2, hu => by
    cases e <;> simp only [ordOk, Bool.false_eq_true] at h
    rename_i ys
    have m1 : PyData.canLayAll0 xs = true := by simpa [PyData.canLay0] using l1
    have m2 : PyData.canLayAll0 ys = true := by simpa [PyData.canLay0] using l2
    have hd : (PyData.list xs).depth = PyData.depthAll xs + 1 := by simp [PyData.depth]
    cases r1 with
    | list p1 p2 p3 p4 =>
      rename_i oa vs na aa
      cases r2 with
      | list q1 q2 q3 q4 =>
        rename_i ob ws nb bb
        have n1 : vs.size = xs.length := by rw [← Array.length_toList]; exact ra_len p4
        have n2 : ws.size = ys.length := by rw [← Array.length_toList]; exact ra_len q4
        have step := rc_lists ho (A := A) (s := s) (e := pairEq xs ys) (r := fun j => ordV o (xs.getD j .none) (ys.getD j .none)) ⟨_, p1, p2, _, p3⟩ ⟨_, q1, q2, _, q3⟩ (by omega) (fun j h1 h2 => by
          have k := eqAt_readsAll xs ys A.in1 s _ _ _ _ p4 q4 m1 m2 (by have : A.in1.units = A.units + 1 := rfl; omega) j (by simpa using h1) (by simpa using h2)
          simpa using k) (fun j h1 h2 hj => by
          have k := rc_dataAll ho xs ys A.in1 s _ _ _ _ p4 q4 h m1 m2 (by have : A.in1.units = A.units + 1 := rfl; omega) j (by simpa using h1) (by simpa using h2) hj
          simpa using k)
        rw [n1, n2, lex_ordL xs ys 0 (fun j => by rw [Nat.zero_add]) (fun j _ => by rw [Nat.zero_add])] at step
        rw [ordV]
        exact step
  | .tuple xs, e, A, s, _, _, _, _, r1, r2, h, l1, l2, hu => by
    cases e <;> simp only [ordOk, Bool.false_eq_true] at h
    rename_i ys
    have m1 : PyData.canLayAll0 xs = true := by simpa [PyData.canLay0] using l1
    have m2 : PyData.canLayAll0 ys = true := by simpa [PyData.canLay0] using l2
    have hd : (PyData.tuple xs).depth = PyData.depthAll xs + 1 := by simp [PyData.depth]
    cases r1 with
    | tuple p1 p2 p3 p4 =>
      rename_i aa oa vs na
      cases r2 with
      | tuple q1 q2 q3 q4 =>
        rename_i bb ob ws nb
        have n1 : vs.size = xs.length := by rw [← Array.length_toList]; exact ra_len p4
        have n2 : ws.size = ys.length := by rw [← Array.length_toList]; exact ra_len q4
        have step := rc_tups ho (A := A) (s := s) (e := pairEq xs ys) (r := fun j => ordV o (xs.getD j .none) (ys.getD j .none)) ⟨_, p1, p2, _, p3⟩ ⟨_, q1, q2, _, q3⟩ (by omega) (fun j h1 h2 => by
          have k := eqAt_readsAll xs ys A.in1 s _ _ _ _ p4 q4 m1 m2 (by have : A.in1.units = A.units + 1 := rfl; omega) j (by simpa using h1) (by simpa using h2)
          simpa using k) (fun j h1 h2 hj => by
          have k := rc_dataAll ho xs ys A.in1 s _ _ _ _ p4 q4 h m1 m2 (by have : A.in1.units = A.units + 1 := rfl; omega) j (by simpa using h1) (by simpa using h2) hj
          simpa using k)
        rw [n1, n2, lex_ordL xs ys 0 (fun j => by rw [Nat.zero_add]) (fun j _ => by rw [Nat.zero_add])] at step
        rw [ordV]
        exact step
  | .none, _, _, _, _, _, _, _, _, _, h, _, _, _ => by simp [ordOk] at h
  | .bool _, _, _, _, _, _, _, _, _, _, h, _, _, _ => by simp [ordOk] at h
  | .str _, _, _, _, _, _, _, _, _, _, h, _, _, _ => by simp [ordOk] at h
  | .dict _, _, _, _, _, _, _, _, _, _, h, _, _, _ => by simp [ordOk] at h
theorem rc_dataAll {o : CmpOp} (ho : IsOrd o) : ∀ (xs ys : List PyData) (A : Around) (s : Shared) (us vs : List Value) (as bs : List Addr), ReadsAll s.heap us xs as → ReadsAll s.heap vs ys bs → ordOkL xs ys = true → PyData.canLayAll0 xs = true → PyData.canLayAll0 ys = true →
    A.units + PyData.depthAll xs < cLine → ∀ j (h1 : j < us.length) (h2 : j < vs.length), pairEq xs ys j = false → RcOp o A s us[j] vs[j] (ordV o (xs.getD j .none) (ys.getD j .none))
  | [], _, _, _, _, _, _, _, ra, _, _, _, _, _, j, h1, _, _ => by cases ra; exact absurd h1 (Nat.not_lt_zero _)
  | _ :: _, [], _, _, _, _, _, _, _, rb, _, _, _, _, j, _, h2, _ => by cases rb; exact absurd h2 (Nat.not_lt_zero _)
  | x :: xs, y :: ys, A, s, _, _, _, _, ra, rb, h, m1, m2, hu, j, h1, h2, hj => by
    have a1 : x.canLay0 = true ∧ PyData.canLayAll0 xs = true := by simpa [PyData.canLayAll0] using m1
    have a2 : y.canLay0 = true ∧ PyData.canLayAll0 ys = true := by simpa [PyData.canLayAll0] using m2
    have hh : (PyData.eqv x y = true ∨ ordOk x y = true) ∧ ordOkL xs ys = true := by simpa [ordOkL] using h
    have hd : x.depth ≤ PyData.depthAll (x :: xs) ∧ PyData.depthAll xs ≤ PyData.depthAll (x :: xs) := by
      simp only [PyData.depthAll]
      omega
    cases ra with
    | cons ra1 ra2 =>
      cases rb with
      | cons rb1 rb2 =>
        cases j with
        | zero =>
          have hj' : PyData.eqv x y = false := hj
          have ok : ordOk x y = true := by
            rcases hh.1 with z | z
            · rw [hj'] at z
              cases z
            · exact z
          exact rc_data ho x y A s _ _ _ _ ra1 rb1 ok a1.1 a2.1 (by omega)
        | succ j => exact rc_dataAll ho xs ys A s _ _ _ _ ra2 rb2 hh.2 a1.2 a2.2 (by omega) j (Nat.lt_of_succ_lt_succ h1) (Nat.lt_of_succ_lt_succ h2) hj
end
/-- x op y of data that can be ordered -/
def rOrdD (K : PySem.W.Frag) (o : CmpOp) : R2 := fun x y H Q => ∃ d e, Dp K H x d ∧ Dp K H y e ∧ ordOk d e = true ∧ d.canLay0 = true ∧ e.canLay0 = true ∧ d.depth ≤ 60 ∧ Q (.bl (ordV o d e)) H
section
variable {X : Cx}
theorem op_ordD {o : CmpOp} (ho : IsOrd o) (hu : X.A.units + 64 < cLine) : OpR X (compareOp o) (rOrdD X.K o) := by
  intro pins s σ H x y v u Q I rx ry h
  obtain ⟨d, e, hd, he, ok, l1, l2, dp, q⟩ := h
  obtain ⟨as, r1⟩ := Dp.reads I d x v hd rx
  obtain ⟨bs, r2⟩ := Dp.reads I e y u he ry
  have go := rc_data ho d e X.A s v u as bs r1 r2 ok l1 l2 (by omega) X.prog X.w X.xe _ (show EP X pins σ Q (.bool (ordV o d e)) s from ⟨.bl _, H, I, rfl, q⟩)
  cases ho <;> exact go
end
end UL
set_option Elab.async false
set_option linter.all false
set_option maxRecDepth 100000
set_option maxHeartbeats 4000000
namespace UL
open PySem PySem.Spec PyProof.Rows L2
/-! ### comprehensions whose elements leave the heap's objects alone (but a pot) -/
section
variable {J : It} {n : Nat} {G : Hp → Prop} {Y : Nat → Hp → V → Hp → Prop} {g : TG} {tt : TT} {te : TE} {vs : List Nat} {σ : L2.St} {H1 : Hp} {D : Addr} {Qd : Hp → Prop}
/-- what lc_it says -/
def LcW (J : It) (g : TG) (tt : TT) (te : TE) (vs : List Nat) (σ : L2.St) (H1 : Hp) (D : Addr) (Qd : Hp → Prop) : Prop :=
    ∃ W : Nat → Nat → Hp → Prop, (∃ m, W 0 m (upd H1 D (.lst []))) ∧ ∀ i m H, W i m H →
      (J.stop i H ∧ Qd H) ∨ (J.go i H ∧ ∃ Nx : Hp → Prop, (∀ H', Nx H' → ∃ m', m' < m ∧ W (i + 1) m' H') ∧ ∀ x H', J.yld i H x H' → g x (wipe σ vs) H' fun σ2 H2 => wipe σ2 vs = wipe σ vs ∧ tt σ2 H2 fun b H3 =>
        if b = true then te σ2 H3 fun y H4 => ∃ acc, H4 D = some (.lst acc) ∧ acc.length < sizeLine ∧ Nx (upd H4 D (.lst (acc ++ [y]))) else Nx H3)
/-- the i-th element is f i -/
theorem lc_same (w : Walk J n G Y) (hD : H1 D = none) (f : Nat → V) (hn : n ≤ 16000000) (hG : ∀ H, L2.Same H1 H → G H)
    (hs : ∀ i x H H', i < n → L2.Same H1 H → Y i H x H' → ∀ R : V → Hp → Prop, (∀ H4, L2.Same H H4 → R (f i) H4) → g x (wipe σ vs) H' fun σ2 H2 => wipe σ2 vs = wipe σ vs ∧ te σ2 H2 R)
    (hd : ∀ H, L2.Same H1 H → H D = some (.lst ((List.range n).map f)) → Qd H) : LcW J g tYes te vs σ H1 D Qd := by
  refine lc_it w (fun i H => H D = some (.lst ((List.range i).map f)) ∧ L2.Same H1 H) ⟨upd_same, same_new hD⟩ (fun i H _ p => hG H p.2) (fun i x H H' hi p y => ?_) fun H p => hd H p.2 p.1
  refine hs i x H H' hi p.2 y _ fun H4 s4 => ?_
  refine ⟨_, s4 _ _ p.1, line_gt (by rw [List.length_map, List.length_range]; omega), ?_, ?_⟩
  · rw [List.range_succ, List.map_append]
    exact upd_same
  · intro b o e
    rw [upd_ne (ne_of_none e hD)]
    exact s4 _ _ (p.2 _ _ e)
/-- some of them are kept -/
theorem lc_filt (w : Walk J n G Y) (hD : H1 D = none) (b : Nat → Bool) (f : Nat → V) (hn : n ≤ 16000000) (hG : ∀ H, L2.Same H1 H → G H)
    (hs : ∀ i x H H', i < n → L2.Same H1 H → Y i H x H' → ∀ (R : V → Hp → Prop) (Z : Hp → Prop), (b i = true → ∀ H4, L2.Same H H4 → R (f i) H4) → (b i = false → ∀ H4, L2.Same H H4 → Z H4) → g x (wipe σ vs) H' fun σ2 H2 => wipe σ2 vs = wipe σ vs ∧ tt σ2 H2 fun c H3 => if c = true then te σ2 H3 R else Z H3)
    (hd : ∀ H, L2.Same H1 H → H D = some (.lst (((List.range n).filter b).map f)) → Qd H) : LcW J g tt te vs σ H1 D Qd := by
  refine lc_it w (fun i H => H D = some (.lst (((List.range i).filter b).map f)) ∧ L2.Same H1 H) ⟨upd_same, same_new hD⟩ (fun i H _ p => hG H p.2) (fun i x H H' hi p y => ?_) fun H p => hd H p.2 p.1
  refine hs i x H H' hi p.2 y _ _ (fun c H4 s4 => ?_) fun c H4 s4 => ?_
  · refine ⟨_, s4 _ _ p.1, line_gt (by rw [List.length_map]; have := List.length_filter_le b (List.range i); rw [List.length_range] at this; omega), ?_, ?_⟩
    · rw [List.range_succ, List.filter_append, List.map_append, List.filter_cons_of_pos c]
      exact upd_same
    · intro b o e
      rw [upd_ne (ne_of_none e hD)]
      exact s4 _ _ (p.2 _ _ e)
  · refine ⟨?_, p.2.trans s4⟩
    rw [List.range_succ, List.filter_append, List.map_append, List.filter_cons_of_neg (by rw [c]; exact Bool.false_ne_true)]
    simp only [List.filter_nil, List.map_nil, List.append_nil]
    exact s4 _ _ p.1
/-- all but lists stay -/
def Keep (H H' : Hp) : Prop := ∀ b o, H b = some o → (∀ xs, o ≠ .lst xs) → H' b = some o
theorem Keep.refl (H : Hp) : Keep H H := fun _ _ h _ => h
theorem Keep.trans {H H1 H2 : Hp} (a : Keep H H1) (b : Keep H1 H2) : Keep H H2 := fun c o h n => b c o (a c o h n) n
theorem Same.keep {H H' : Hp} (s : L2.Same H H') : Keep H H' := fun b o h _ => s b o h
theorem Stay.keep {H H' : Hp} {p : Addr} (s : Stay p H H') (hp : Pot H p) : Keep H H' := fun b o h n => by
  obtain ⟨x, y, e, _⟩ := hp
  exact s b o (fun z => n _ (Option.some.inj (h.symm.trans (by rw [z]; exact e)))) h
theorem Keep.ins {H H' : Hp} {a C dx : Addr} {fs : List (Str × V)} (k : Keep H H') (h : H a = some (.ins C dx fs)) : H' a = some (.ins C dx fs) := k _ _ h fun xs z => by cases z
theorem Keep.tup {H H' : Hp} {a : Addr} {xs : List V} (k : Keep H H') (h : H a = some (.tup xs)) : H' a = some (.tup xs) := k _ _ h fun xs z => by cases z
/-- the elements tell R; a pot may change -/
theorem lc_stay (w : Walk J n G Y) {p : Addr} (hD : H1 D = none) (hp : Pot H1 p) (R : Nat → V → Hp → Prop)
    (mono : ∀ i v H H', R i v H → (∃ xs, H D = some (.lst xs)) → Pot H p → (∀ b o, b ≠ p → b ≠ D → H b = some o → H' b = some o) → R i v H') (hn : n ≤ 16000000) (hG : ∀ H, Stay p H1 H → Pot H p → G H)
    (hs : ∀ i x H H', i < n → Stay p H1 H → Pot H p → Y i H x H' → ∀ Z : V → Hp → Prop, (∀ y H4, R i y H4 → Stay p H H4 → Pot H4 p → Z y H4) → g x (wipe σ vs) H' fun σ2 H2 => wipe σ2 vs = wipe σ vs ∧ te σ2 H2 Z)
    (hd : ∀ H ys, ys.length = n → (∀ i y, ys[i]? = some y → R i y H) → Stay p H1 H → Pot H p → H D = some (.lst ys) → Qd H) : LcW J g tYes te vs σ H1 D Qd := by
  obtain ⟨a0, b0, e0, _⟩ := id hp
  have np : D ≠ p := (ne_of_none e0 hD).symm
  refine lc_it w (fun i H => ∃ ys : List V, ys.length = i ∧ (∀ j y, ys[j]? = some y → R j y H) ∧ H D = some (.lst ys) ∧ Stay p H1 H ∧ Pot H p) ⟨[], rfl, fun j y z => by simp at z, upd_same, Same.stay (same_new hD) p, hp.same (same_new hD)⟩
    (fun i H _ ⟨_, _, _, _, s, q⟩ => hG H s q) (fun i x H H' hi ⟨ys, l, r, d, s, q⟩ y => ?_) fun H ⟨ys, l, r, d, s, q⟩ => hd H ys l r s q d
  refine hs i x H H' hi s q y _ fun y H4 ry s4 q4 => ?_
  have d4 : H4 D = some (.lst ys) := s4 _ _ np d
  have mv : ∀ (b : Addr) (o : HO), b ≠ p → b ≠ D → H4 b = some o → upd H4 D (.lst (ys ++ [y])) b = some o := fun b o _ n e => by rw [upd_ne n]; exact e
  refine ⟨ys, d4, line_gt (by omega), ys ++ [y], by rw [List.length_append, l]; rfl, fun j z hz => ?_, upd_same, ?_, ?_⟩
  · rw [List.getElem?_append] at hz
    split at hz
    · exact mono j z H4 _ (mono j z H H4 (r j z hz) ⟨_, d⟩ q fun b o n1 _ e => s4 b o n1 e) ⟨_, d4⟩ q4 mv
    · have e : j = i ∧ y = z := by
        have hl : j - ys.length < 1 := by
          have := (List.getElem?_eq_some_iff.mp hz).1
          simpa using this
        have : j - ys.length = 0 := by omega
        rw [this] at hz
        simp at hz
        exact ⟨by omega, hz⟩
      obtain ⟨rfl, rfl⟩ := e
      exact mono _ _ H4 _ ry ⟨_, d4⟩ q4 mv
  · intro b o n e
    rw [upd_ne (ne_of_none e hD)]
    exact s4 _ _ n (s _ _ n e)
  · obtain ⟨a4, b4, e4, r4⟩ := q4
    exact ⟨a4, b4, by rw [upd_ne np.symm]; exact e4, r4⟩
/-- .. where R speaks of no lists -/
theorem lc_keep (w : Walk J n G Y) {p : Addr} (hD : H1 D = none) (hp : Pot H1 p) (R : Nat → V → Hp → Prop) (mono : ∀ i v H H', R i v H → Keep H H' → R i v H') (hn : n ≤ 16000000) (hG : ∀ H, Stay p H1 H → Pot H p → G H)
    (hs : ∀ i x H H', i < n → Stay p H1 H → Pot H p → Y i H x H' → ∀ Z : V → Hp → Prop, (∀ y H4, R i y H4 → Stay p H H4 → Pot H4 p → Z y H4) → g x (wipe σ vs) H' fun σ2 H2 => wipe σ2 vs = wipe σ vs ∧ te σ2 H2 Z)
    (hd : ∀ H ys, ys.length = n → (∀ i y, ys[i]? = some y → R i y H) → Stay p H1 H → Pot H p → H D = some (.lst ys) → Qd H) : LcW J g tYes te vs σ H1 D Qd :=
  lc_stay w hD hp R (fun i v H H' r ⟨xs, d⟩ ⟨a, b, e, _⟩ k => mono i v H H' r fun c o h n => k c o (fun z => n _ (Option.some.inj (h.symm.trans ((congrArg H z).trans e)))) (fun z => n _ (Option.some.inj (h.symm.trans ((congrArg H z).trans d)))) h) hn hG hs hd
end
/-- row by row -/
def Each {α : Type} (R : V → α → Prop) (vs : List V) (ds : List α) : Prop := vs.length = ds.length ∧ ∀ (i : Nat) v d, vs[i]? = some v → ds[i]? = some d → R v d
section
variable {α : Type} {R R' : V → α → Prop}
theorem Each.nil : Each R [] [] := ⟨rfl, fun i v d h => by simp at h⟩
theorem Each.imp {vs : List V} {ds : List α} (e : Each R vs ds) (h : ∀ v d, R v d → R' v d) : Each R' vs ds := ⟨e.1, fun i v d h1 h2 => h v d (e.2 i v d h1 h2)⟩
theorem Each.cons {v : V} {d : α} {vs : List V} {ds : List α} (h : R v d) (e : Each R vs ds) : Each R (v :: vs) (d :: ds) := ⟨by rw [List.length_cons, List.length_cons, e.1], fun i x y h1 h2 => by
  cases i with
  | zero =>
    simp at h1 h2
    rw [← h1, ← h2]
    exact h
  | succ i => exact e.2 i x y (by simpa using h1) (by simpa using h2)⟩
theorem Each.app {vs us : List V} {ds es : List α} (a : Each R vs ds) (b : Each R us es) : Each R (vs ++ us) (ds ++ es) := by
  induction vs generalizing ds with
  | nil =>
    cases ds with
    | nil => exact b
    | cons d ds => exact absurd a.1 (by simp)
  | cons v vs ih =>
    cases ds with
    | nil => exact absurd a.1 (by simp)
    | cons d ds => exact Each.cons (a.2 0 v d rfl rfl) (ih ⟨by have := a.1; simpa using this, fun i x y h1 h2 => a.2 (i + 1) x y (by simpa using h1) (by simpa using h2)⟩)
theorem Each.one {v : V} {d : α} (h : R v d) : Each R [v] [d] := Each.cons h Each.nil
theorem Each.at {vs : List V} {ds : List α} (e : Each R vs ds) {i : Nat} {v : V} (h : vs[i]? = some v) : ∃ d, ds[i]? = some d ∧ R v d := by
  have hl := (List.getElem?_eq_some_iff.mp h).1
  have hl2 : i < ds.length := by rw [← e.1]; exact hl
  exact ⟨ds[i], List.getElem?_eq_getElem hl2, e.2 i v _ h (List.getElem?_eq_getElem hl2)⟩
theorem Each.atD {vs : List V} {ds : List α} (e : Each R vs ds) {i : Nat} {d : α} (h : ds[i]? = some d) : ∃ v, vs[i]? = some v ∧ R v d := by
  have hl := (List.getElem?_eq_some_iff.mp h).1
  have hl2 : i < vs.length := by rw [e.1]; exact hl
  exact ⟨vs[i], List.getElem?_eq_getElem hl2, e.2 i _ d (List.getElem?_eq_getElem hl2) h⟩
theorem Each.of_map {β : Type} {f : β → V} {g : β → α} {l : List β} (h : ∀ x ∈ l, R (f x) (g x)) : Each R (l.map f) (l.map g) := ⟨by simp, fun i v d h1 h2 => by
  rw [List.getElem?_map] at h1 h2
  obtain ⟨x, e1, rfl⟩ := Option.map_eq_some_iff.mp h1
  obtain ⟨y, e2, rfl⟩ := Option.map_eq_some_iff.mp h2
  rw [e1] at e2
  cases e2
  exact h x (List.mem_of_getElem? e1)⟩
end
/-- a row written by its places -/
theorem range_map {α : Type} {f : Nat → α} {l : List α} (h : ∀ i (hi : i < l.length), f i = l[i]) : (List.range l.length).map f = l := by
  refine List.ext_getElem (by simp) fun i h1 h2 => ?_
  rw [List.getElem_map, List.getElem_range]
  exact h i h2
end UL
set_option Elab.async false
set_option linter.all false
set_option maxRecDepth 100000
set_option maxHeartbeats 4000000
namespace UL
open PySem PySem.Spec PyProof.Rows L2
section
variable {J : It} {n : Nat} {G : Hp → Prop} {Y : Nat → Hp → V → Hp → Prop} {g : TG} {tb : TS} {σ : L2.St} {H1 : Hp} {D : Ends}
/-- a for whose turns leave all objects alone: P by the turn and the slots -/
theorem fr_same (w : Walk J n G Y) (P : Nat → L2.St → Prop) (h0 : P 0 σ) (hG : ∀ H, L2.Same H1 H → G H)
    (hs : ∀ i x σ H H', i < n → L2.Same H1 H → P i σ → Y i H x H' → ∀ Z : L2.St → Hp → Prop, (∀ σ2 H2, P (i + 1) σ2 → L2.Same H H2 → Z σ2 H2) → g x σ H' fun σ2 H2 => tb { D with nx := Z, ct := Z, bk := D.nx } σ2 H2)
    (hd : ∀ σ H, P n σ → L2.Same H1 H → D.nx σ H) : WalkE J g tb D σ H1 :=
  for_it w (fun i σ H => P i σ ∧ L2.Same H1 H) ⟨h0, L2.Same.refl _⟩ (fun i σ H _ p => hG H p.2) (fun i x σ H H' hi p y => hs i x σ H H' hi p.2 p.1 y _ fun σ2 H2 p2 s2 => ⟨p2, p.2.trans s2⟩) fun σ H p => hd σ H p.1 p.2
/-- .. but a pot: P by the turn, the slots and the heap -/
theorem fr_stay (w : Walk J n G Y) {p : Addr} (hp : Pot H1 p) (P : Nat → L2.St → Hp → Prop) (h0 : P 0 σ H1) (hG : ∀ H, Stay p H1 H → Pot H p → G H)
    (hs : ∀ i x σ H H', i < n → Stay p H1 H → Pot H p → P i σ H → Y i H x H' → ∀ Z : L2.St → Hp → Prop, (∀ σ2 H2, P (i + 1) σ2 H2 → Stay p H H2 → Pot H2 p → Z σ2 H2) → g x σ H' fun σ2 H2 => tb { D with nx := Z, ct := Z, bk := D.nx } σ2 H2)
    (hd : ∀ σ H, P n σ H → Stay p H1 H → Pot H p → D.nx σ H) : WalkE J g tb D σ H1 :=
  for_it w (fun i σ H => P i σ H ∧ Stay p H1 H ∧ Pot H p) ⟨h0, Stay.refl _ _, hp⟩ (fun i σ H _ q => hG H q.2.1 q.2.2) (fun i x σ H H' hi q y => hs i x σ H H' hi q.2.1 q.2.2 q.1 y _ fun σ2 H2 p2 s2 q2 => ⟨p2, q.2.1.trans s2, q2⟩) fun σ H q => hd σ H q.1 q.2.1 q.2.2
end
theorem over_look2 {H : Hp} {x p : Addr} {o o' u : HO} (h : H p = some u) (hx : H x = some o') (n : u ≠ o') : upd H x o p = some u := by rw [upd_ne (ne_of h hx n)]; exact h
theorem kit_own {K : PySem.W.Frag} {C : Addr} : PySem.W.kitOne K (.ref C) (.ref C) = some true := by simp [PySem.W.kitOne]
/-! ### parts of rows -/
theorem cut_to (xs : List V) (i : Nat) : cutV xs none (some (i : Int)) = xs.take i := by
  unfold cutV
  rw [HT.sIx_nat, HT.sIx_none, List.drop_zero, Nat.sub_zero]
  rcases Nat.le_total i xs.length with h | h
  · rw [Nat.min_eq_left h]
  · rw [Nat.min_eq_right h, List.take_of_length_le (Nat.le_refl _), List.take_of_length_le h]
theorem cut_from (xs : List V) (i : Nat) : cutV xs (some (i : Int)) none = xs.drop i := by
  unfold cutV
  rw [HT.sIx_nat, HT.sIx_none]
  rcases Nat.le_total i xs.length with h | h
  · rw [Nat.min_eq_left h]
    exact List.take_of_length_le (by simp)
  · rw [Nat.min_eq_right h, List.drop_of_length_le (Nat.le_refl _), List.drop_of_length_le h, List.take_nil]
theorem range_getD {l : List V} {d : V} : (List.range l.length).map (fun i => l.getD i d) = l := range_map fun i h => by simp [h]
theorem flat_strs (xs : List Str) : (xs.map V.str).all flatV = true := by simp [flatV]
theorem flat_ints (xs : List Int) : (xs.map V.int).all flatV = true := by simp [flatV]
theorem in_strs (x : Str) (xs : List Str) : inV (.str x) (xs.map V.str) = decide (x ∈ xs) := by
  unfold inV
  rw [Bool.eq_iff_iff, List.any_eq_true, decide_eq_true_iff]
  constructor
  · rintro ⟨v, hv, e⟩
    obtain ⟨y, hy, rfl⟩ := List.mem_map.mp hv
    have : x = y ∨ y = x := by
      simp [eqV] at e
      first | exact .inl e | exact .inr e
    rcases this with rfl | rfl <;> exact hy
  · intro h
    exact ⟨.str x, List.mem_map.mpr ⟨x, h, rfl⟩, eqV_self_str x⟩
theorem not_ahead {α : Type} : ∀ {l : List α} {i : Nat} {x : α}, l.Nodup → l[i]? = some x → x ∉ l.take i
  | [], i, x, _, h => by simp at h
  | y :: l, 0, x, _, _ => by simp
  | y :: l, i + 1, x, nd, h => by
    rw [List.nodup_cons] at nd
    have h' : l[i]? = some x := by simpa using h
    intro hm
    rw [List.take_succ_cons, List.mem_cons] at hm
    rcases hm with rfl | hm
    · exact nd.1 (List.mem_of_getElem? h')
    · exact not_ahead nd.2 h' hm
/-- t + u of tuples, any -/
def rCatS : R2 := fun x y H Q => ∃ a b xs ys, x = .ref a ∧ y = .ref b ∧ H a = some (.tup xs) ∧ H b = some (.tup ys) ∧ xs.length + ys.length ≤ sizeLine ∧ ∀ p H', L2.Same H H' → H' p = some (.tup (xs ++ ys)) → Q (.ref p) H'
theorem op_catS {X : Cx} : OpR X (binaryOp .Add) rCatS := by
  intro pins s σ H x y v u Q I rx ry h
  obtain ⟨a, b, xs, ys, rfl, rfl, ha, hb, hz, q⟩ := h
  refine op_catA pins s σ H _ _ v u Q I rx ry ⟨a, b, xs, ys, rfl, rfl, SqT.of ha, SqT.of hb, hz, fun e => ?_, fun _ e => ?_, fun _ _ p hp => ?_⟩
  · refine q b H (L2.Same.refl _) ?_
    rw [e]
    exact hb
  · refine q a H (L2.Same.refl _) ?_
    rw [e, List.append_nil]
    exact ha
  · exact q p _ (same_new hp) upd_same
theorem walk_enumT {K : PySem.W.Frag} {a : Addr} {xs : List V} : Walk (Itet K a) xs.length (fun H => SqT K H a xs) (YPair (fun i => some (.int (i : Nat))) (fun i => xs[i]?)) := by
  refine ⟨fun i _ hi q => ⟨xs, xs[i], q, by simp [hi]⟩, fun _ q => ⟨xs, q, rfl⟩, fun i H v H' _ q y => ?_⟩
  obtain ⟨T, x, h1, h2, h3, h4⟩ := y
  exact ⟨T, .int (i : Nat), x, h1, h2, h3, rfl, h4 xs q⟩
/-- a thing that comes once at most stands once at most -/
theorem once_ahead {l : List Str} {x : Str} (h : l.count x ≤ 1) {i : Nat} (hi : l[i]? = some x) : x ∉ l.take i := by
  intro hm
  have e : l = l.take i ++ l.drop i := (List.take_append_drop i l).symm
  have h2 : x ∈ l.drop i := by
    refine List.mem_of_getElem? (i := 0) ?_
    rw [List.getElem?_drop, Nat.add_zero]
    exact hi
  have h3 := List.count_pos_iff.mpr hm
  have h4 := List.count_pos_iff.mpr h2
  rw [e, List.count_append] at h
  omega
theorem mem_take_succ {l : List Str} {x y : Str} {i : Nat} (hi : l[i]? = some y) : x ∈ l.take (i + 1) ↔ x ∈ l.take i ∨ x = y := by
  have hl := (List.getElem?_eq_some_iff.mp hi)
  obtain ⟨h1, h2⟩ := hl
  rw [List.take_succ_eq_append_getElem h1, List.mem_append, List.mem_singleton, h2]
/-! ### what is read within a comprehension speaks of the same fragment -/
theorem pe_conv {X : Cx} {e : Expr} {t t' : TE} (h : PE X e t) (q : t = t') : PE X e t' := q ▸ h
theorem pts_conv {X : Cx} {es : List Expr} {t t' : TT} (h : PTs X es t) (q : t = t') : PTs X es t' := q ▸ h
theorem blk_K {X : Cx} {s : Shared} {H : Hp} {scope : Scope} {env : Env} {fp : List Addr} : (X.blk s H scope env fp).K = X.K := rfl
theorem nox_K {X : Cx} : X.nox.K = X.K := rfl
theorem cxOf_K {CX : CXT} {P : Program} {w : World} {K : PySem.W.Frag} {mg : Str → Option Value} {base : Heap} {N : List Str} {qual : Str} {scope : Scope} {f : Addr} {cdv : Value} {A : Around} {outer : List Env} {s : Shared} {H : Hp} {E : XK} : (cxOf CX P w K mg base N qual scope f cdv A outer s H E).K = K := rfl
/-- where a text stands first -/
theorem idx_strs {al : List Str} {l : Str} (h : l ∈ al) : (al.map V.str)[al.idxOf l]? = some (.str l) ∧ eqV (.str l) (.str l) = true ∧ ∀ (m : Nat) (z : V), m < al.idxOf l → (al.map V.str)[m]? = some z → eqV z (.str l) = false := by
  have hl := List.idxOf_lt_length_iff.mpr h
  refine ⟨by rw [List.getElem?_map, List.getElem?_eq_getElem hl, List.getElem_idxOf hl]; rfl, eqV_self_str l, fun m z hm hz => ?_⟩
  rw [List.getElem?_map] at hz
  obtain ⟨y, hy, rfl⟩ := Option.map_eq_some_iff.mp hz
  have ne : y ≠ l := by
    intro e
    have := List.not_of_lt_findIdx (p := (· == l)) (xs := al) hm
    obtain ⟨h1, h2⟩ := List.getElem?_eq_some_iff.mp hy
    simp only [h2, e] at this
    simp at this
  simp only [eqV]
  simpa using ne
theorem ty_lst {K : PySem.W.Frag} {H : Hp} {p : Addr} {xs : List V} (h : H p = some (.lst xs)) : tyV K "list" (.ref p) H := .inl ⟨rfl, xs, SqL.of h⟩
theorem Stay.seqL {K : PySem.W.Frag} {p l : Addr} {H H' : Hp} {xs : List V} (s : Stay p H H') (n : l ≠ p) (h : SqL K H l xs) : SqL K H' l xs := by
  rcases h with (h | ⟨o, h⟩) | h
  · exact .inl (.inl (s _ _ n h))
  · exact .inl (.inr ⟨o, s _ _ n h⟩)
  · exact .inr h
theorem Stay.lookN {H H' : Hp} {p a : Addr} {o : HO} (s : Stay p H H') (n : a ≠ p) (h : H a = some o) : H' a = some o := s _ _ n h
theorem ne_pot {H : Hp} {b p : Addr} (hb : H b = none) (hp : Pot H p) : b ≠ p := by
  obtain ⟨x, y, e, _⟩ := hp
  exact ne_new hb e
/-- one of a written row -/
theorem at_ints {ns : List Int} {i : Nat} {v : V} (h : (ns.map V.int)[i]? = some v) : ∃ n ∈ ns, v = .int n := by
  rw [List.getElem?_map] at h
  obtain ⟨n, h1, h2⟩ := Option.map_eq_some_iff.mp h
  exact ⟨n, List.mem_of_getElem? h1, h2.symm⟩
theorem at_strs {ns : List Str} {i : Nat} {v : V} (h : (ns.map V.str)[i]? = some v) : ∃ n ∈ ns, v = .str n := by
  rw [List.getElem?_map] at h
  obtain ⟨n, h1, h2⟩ := Option.map_eq_some_iff.mp h
  exact ⟨n, List.mem_of_getElem? h1, h2.symm⟩
/-- a written row of texts, found in the heap -/
theorem strs_of {ys : List V} {R : Str → Prop} (h : ∀ (i : Nat) y, ys[i]? = some y → ∃ x, R x ∧ y = .str x) : ∃ zs : List Str, ys = zs.map V.str ∧ ∀ z ∈ zs, R z := by
  induction ys with
  | nil => exact ⟨[], rfl, fun z h => by cases h⟩
  | cons y ys ih =>
    obtain ⟨x, rx, rfl⟩ := h 0 y rfl
    obtain ⟨zs, e, hz⟩ := ih fun i z hz => h (i + 1) z (by simpa using hz)
    exact ⟨x :: zs, by rw [e]; rfl, fun z hz' => by
      rcases List.mem_cons.mp hz' with rfl | hz'
      · exact rx
      · exact hz z hz'⟩
theorem Stay.over {H H' : Hp} {p D : Addr} {o : HO} (s : Stay p H H') (hD : H D = none) : Stay p H (upd H' D o) := fun b u n e => by rw [upd_ne (ne_of_none e hD)]; exact s b u n e
theorem Pot.over {H : Hp} {p D : Addr} {o : HO} (h : Pot H p) (n : D ≠ p) : Pot (upd H D o) p := by
  obtain ⟨a, b, e, r⟩ := h
  exact ⟨a, b, by rw [upd_ne n.symm]; exact e, r⟩
/-- a statement that the walk leaves alone -/
@[irreducible] def Hold (P : Prop) : Prop := P
theorem Hold.mk {P : Prop} (h : P) : Hold P := by unfold Hold; exact h
theorem Hold.out {P : Prop} (h : Hold P) : P := by unfold Hold at h; exact h
theorem range_filt {l : List Str} {d : Str} (b : Str → Bool) (f : Str → V) {n : Nat} (hn : n = l.length) : ((List.range n).filter fun u => b (l.getD u d)).map (fun u => f (l.getD u d)) = (l.filter b).map f := by
  subst hn
  have e : (List.range l.length).map (fun u => l.getD u d) = l := range_map fun i h => by simp [h]
  have h := List.filter_map (p := b) (f := fun u => l.getD u d) (l := List.range l.length)
  rw [e] at h
  rw [h, List.map_map]
  rfl
/-- a datum for each of a row -/
theorem each_choose {α : Type} : ∀ {ys : List V} {R : Nat → V → α → Prop}, (∀ (i : Nat) y, ys[i]? = some y → ∃ k, R i y k) → ∃ ks : List α, ks.length = ys.length ∧ ∀ (i : Nat) y k, ys[i]? = some y → ks[i]? = some k → R i y k
  | [], R, h => ⟨[], rfl, fun i y k e => by simp at e⟩
  | y :: ys, R, h => by
    obtain ⟨k, hk⟩ := h 0 y rfl
    obtain ⟨ks, l, h2⟩ := each_choose (ys := ys) (R := fun i => R (i + 1)) fun i z e => h (i + 1) z (by simpa using e)
    refine ⟨k :: ks, by simp [l], fun i z q e1 e2 => ?_⟩
    cases i with
    | zero =>
      simp at e1 e2
      subst e1 e2
      exact hk
    | succ i => exact h2 i z q (by simpa using e1) (by simpa using e2)
theorem Stay.none {H H' : Hp} {p D : Addr} (s : Stay p H H') (hp : Pot H' p) (h : H' D = none) : H D = none := by
  cases e : H D with
  | none => rfl
  | some o =>
    by_cases c : D = p
    · obtain ⟨a, b, e', _⟩ := hp
      rw [c, e'] at h
      cases h
    · rw [s _ _ c e] at h
      cases h
theorem at_strs' {ns : List Str} {i : Nat} {v : V} (h : (ns.map V.str)[i]? = some v) : ∃ n, ns[i]? = some n ∧ v = .str n := by
  rw [List.getElem?_map] at h
  obtain ⟨n, h1, h2⟩ := Option.map_eq_some_iff.mp h
  exact ⟨n, h1, h2.symm⟩
/-- an if whose one way ends; what comes behind is shown once -/
theorem seq_if {t : TT} {a u : TS} {D : Ends} {σ : L2.St} {H : Hp} (P : Hp → Prop) (rest : ∀ H', P H' → u D σ H') (h : (∀ H', P H' → u D σ H') → tIfS t a tNext { D with nx := u D } σ H) : tSeq (tIfS t a tNext) u D σ H := h rest
theorem gname_go {i : Nat} {x : V} {σ : L2.St} {H : Hp} {Q : L2.St → Hp → Prop} (h : Q (σ.set i (some x)) H) : gName i x σ H Q := h
end UL
set_option Elab.async false
set_option linter.all false
set_option maxRecDepth 100000
set_option maxHeartbeats 4000000
namespace UL
open PySem PySem.Spec PyProof.Rows L2 PySem.SeqAt
/-! ### xs.count(y) of data -/
theorem DpAll.len {K : PySem.W.Frag} {H : Hp} : ∀ {vs : List V} {ds : List PyData}, DpAll K H vs ds → vs.length = ds.length
  | _, _, .nil => rfl
  | _, _, .cons _ q => by rw [List.length_cons, List.length_cons, DpAll.len q]
def rCntD (K : PySem.W.Frag) : V → List V → Hp → VK → Prop := fun x xs H Q => ∃ (p : Addr) (ys : List V) (ds : List PyData) (v : V) (d : PyData), x = .ref p ∧ xs = [v] ∧ SqL K H p ys ∧ DpAll K H ys ds ∧ Dp K H v d ∧ PyData.plainAll ds = true ∧ d.plain = true ∧ d.depth ≤ 40 ∧ Q (.int ((ds.countP fun y => PyData.eqv y d : Nat) : Int)) H
theorem mt_dcount {X : Cx} (hu : X.A.units + 64 < cLine) : MtR X "list.count" (rCntD X.K) := by
  intro pins s σ H x xs v us Q I rx rxs h
  obtain ⟨p, ys, ds, y, d, rfl, rfl, hs, hds, hd, p1, p2, dp, q⟩ := h
  cases rx
  obtain ⟨u, rfl, ru⟩ := rxs.one
  obtain ⟨its, rv, hl, hlen⟩ := I.list hs
  obtain ⟨as, r1⟩ := Dp.readsAll I ds ys its hds rv
  obtain ⟨bs, r2⟩ := Dp.reads I d y u hd ru
  exact count_list_data hl.isList (by simpa using r1) r2 p1 p2 (by omega) ⟨.int _, H, I.tok _, ⟨_, rfl⟩, q⟩
/-! ### orders of rows of whole numbers -/
theorem eqv_int (a b : Int) : PyData.eqv (.int a) (.int b) = decide (a = b) := PySem.W.Datum.eqv a b
theorem eqv_ints (xs ys : List Int) : PyData.eqvAll (xs.map PyData.int) (ys.map PyData.int) = decide (xs = ys) := PySem.W.eqvAll_map xs ys
theorem ordL_lt : ∀ (z : Bool) (xs ys : List Int), (z = decide (xs.length < ys.length)) → ordL .Lt z (xs.map PyData.int) (ys.map PyData.int) = decide (xs < ys)
  | z, [], [], e => by
    subst e
    simp [ordL]
  | z, [], y :: ys, e => by
    subst e
    simp [ordL]
  | z, x :: xs, [], e => by
    subst e
    simp [ordL]
  | z, x :: xs, y :: ys, e => by
    simp only [List.map_cons, ordL, eqv_int]
    by_cases c : x = y
    · rw [if_pos (decide_eq_true c), ordL_lt z xs ys (by rw [e]; simp), decide_eq_decide, List.cons_lt_cons_iff]
      subst c
      simp
    · have hh : decide (x :: xs < y :: ys) = decide (x < y ∨ x = y ∧ xs < ys) := decide_eq_decide.mpr List.cons_lt_cons_iff
      rw [if_neg (by simpa using c), hh]
      simp [ordV, opI, c]
theorem ordL_le : ∀ (z : Bool) (xs ys : List Int), (z = decide (xs.length ≤ ys.length)) → ordL .LtE z (xs.map PyData.int) (ys.map PyData.int) = decide (xs ≤ ys)
  | z, [], [], e => by
    subst e
    simp [ordL]
  | z, [], y :: ys, e => by
    subst e
    simp [ordL]
  | z, x :: xs, [], e => by
    subst e
    simp [ordL]
  | z, x :: xs, y :: ys, e => by
    simp only [List.map_cons, ordL, eqv_int]
    by_cases c : x = y
    · rw [if_pos (decide_eq_true c), ordL_le z xs ys (by rw [e]; simp), decide_eq_decide, List.cons_le_cons_iff]
      subst c
      simp
    · have hh : decide (x :: xs ≤ y :: ys) = decide (x < y ∨ x = y ∧ xs ≤ ys) := decide_eq_decide.mpr List.cons_le_cons_iff
      rw [if_neg (by simpa using c), hh]
      simp [ordV, opI, c]
      try omega
/-- a row put into a row in order, at the first place behind all that are below -/
theorem ins_sorted {α : Type} {r : α → α → Prop} (tot : ∀ a b, r a b ∨ r b a) (tr : ∀ a b c, r a b → r b c → r a c) {l : List α} {x : α} {i : Nat} (h : l.Pairwise r) (lo : ∀ y ∈ l.take i, r y x) (hi : ∀ y, l[i]? = some y → r x y) : (l.take i ++ [x] ++ l.drop i).Pairwise r := by
  have e : l = l.take i ++ l.drop i := (List.take_append_drop i l).symm
  rw [e, List.pairwise_append] at h
  obtain ⟨h1, h2, h3⟩ := h
  have hx : ∀ y ∈ l.drop i, r x y := by
    cases hd : l.drop i with
    | nil => exact fun y hy => by cases hy
    | cons y ys =>
      have h0 : l[i]? = some y := by
        have : (l.drop i)[0]? = some y := by rw [hd]; rfl
        rw [List.getElem?_drop, Nat.add_zero] at this
        exact this
      rw [hd, List.pairwise_cons] at h2
      exact fun z hz => by
        rcases List.mem_cons.mp hz with rfl | hz
        · exact hi _ h0
        · exact tr _ _ _ (hi _ h0) (h2.1 z hz)
  rw [List.append_assoc, List.pairwise_append]
  refine ⟨h1, ?_, fun a ha b hb => ?_⟩
  · rw [List.singleton_append, List.pairwise_cons]
    exact ⟨hx, h2⟩
  · rcases List.mem_append.mp hb with hb | hb
    · rw [List.mem_singleton.mp hb]
      exact lo a ha
    · exact h3 a ha b hb
theorem ins_perm {α : Type} (l : List α) (x : α) (i : Nat) : (l.take i ++ [x] ++ l.drop i).Perm (x :: l) := by
  have h := @List.perm_middle _ x (l.take i) (l.drop i)
  rw [List.take_append_drop] at h
  simpa using h
/-- what a def does that is run with n values, its star empty -/
@[irreducible] def spW (n : Nat) (sp : Sp) : Sp := fun vs H Q E => vs.length = n + 1 ∧ ∀ p, H p = Option.none → sp (vs ++ [V.ref p]) (upd H p (.tup [])) Q E
/-- an if whose one way ends; what comes behind is shown once, and hidden within -/
theorem seq_ifN {t : TT} {a u : TS} {D : Ends} {σ : L2.St} {H : Hp} (P : Hp → Prop) (rest : ∀ H', P H' → u D σ H') (h : ∀ Nx : L2.St → Hp → Prop, (∀ H', P H' → Nx σ H') → tIfS t a tNext { D with nx := Nx } σ H) : tSeq (tIfS t a tNext) u D σ H := h _ rest
section
variable {J : It} {n : Nat} {G : Hp → Prop} {Y : Nat → Hp → V → Hp → Prop} {g : TG} {te : TE} {vs : List Nat} {σ : L2.St} {H1 : Hp} {D : Addr} {Qd : Hp → Prop}
/-- the elements tell R, objects made on the way too; nothing changes but the row itself -/
theorem lc_made (w : Walk J n G Y) (hD : H1 D = none) (R : Nat → V → Hp → Prop)
    (mono : ∀ i v H H', R i v H → (∀ b o, b ≠ D → H b = some o → H' b = some o) → R i v H') (hn : n ≤ 16000000) (hG : ∀ H, L2.Same H1 H → G H)
    (hs : ∀ i x H H', i < n → L2.Same H1 H → (∃ xs, H D = some (.lst xs)) → Y i H x H' → ∀ Z : V → Hp → Prop, (∀ y H4, R i y H4 → L2.Same H H4 → Z y H4) → g x (wipe σ vs) H' fun σ2 H2 => wipe σ2 vs = wipe σ vs ∧ te σ2 H2 Z)
    (hd : ∀ H ys, ys.length = n → (∀ i y, ys[i]? = some y → R i y H) → L2.Same H1 H → H D = some (.lst ys) → Qd H) : LcW J g tYes te vs σ H1 D Qd := by
  refine lc_it w (fun i H => ∃ ys : List V, ys.length = i ∧ (∀ j y, ys[j]? = some y → R j y H) ∧ H D = some (.lst ys) ∧ L2.Same H1 H) ⟨[], rfl, fun j y z => by simp at z, upd_same, same_new hD⟩
    (fun i H _ ⟨_, _, _, _, s⟩ => hG H s) (fun i x H H' hi ⟨ys, l, r, d, s⟩ y => ?_) fun H ⟨ys, l, r, d, s⟩ => hd H ys l r s d
  refine hs i x H H' hi s ⟨_, d⟩ y _ fun y H4 ry s4 => ?_
  have d4 : H4 D = some (.lst ys) := s4 _ _ d
  have mv : ∀ (b : Addr) (o : HO), b ≠ D → H4 b = some o → upd H4 D (.lst (ys ++ [y])) b = some o := fun b o n e => by rw [upd_ne n]; exact e
  refine ⟨ys, d4, line_gt (by omega), ys ++ [y], by rw [List.length_append, l]; rfl, fun j z hz => ?_, upd_same, ?_⟩
  · rw [List.getElem?_append] at hz
    split at hz
    · exact mono j z H4 _ (mono j z H H4 (r j z hz) fun b o _ e => s4 b o e) mv
    · have e : j = i ∧ y = z := by
        have hl : j - ys.length < 1 := by
          have := (List.getElem?_eq_some_iff.mp hz).1
          simpa using this
        have : j - ys.length = 0 := by omega
        rw [this] at hz
        simp at hz
        exact ⟨by omega, hz⟩
      obtain ⟨rfl, rfl⟩ := e
      exact mono _ _ H4 _ ry mv
  · intro b o e
    rw [upd_ne (ne_of_none e hD)]
    exact s4 _ _ (s _ _ e)
end
end UL
set_option Elab.async false
set_option linter.all false
set_option maxRecDepth 100000
set_option maxHeartbeats 4000000
namespace UL
open PySem PySem.Spec PyProof.Rows L2
/-- a while whose turns are counted up to n at most -/
theorem while_up {c : TT} {tb : TS} {D : Ends} {σ : L2.St} {H : Hp} (n : Nat) (Pv : Nat → L2.St → Hp → Prop) (h0 : Pv 0 σ H)
    (hs : ∀ i σ H, i ≤ n → Pv i σ H → ∀ R : Bool → Hp → Prop, (∀ H1, (i < n ∧ tb { D with nx := Pv (i + 1), ct := Pv (i + 1), bk := D.nx } σ H1) → R true H1) → (∀ H1, D.nx σ H1 → R false H1) → c σ H R) : tWhile c tb D σ H := by
  refine ⟨fun m σ H => ∃ i, m = n - i ∧ i ≤ n ∧ Pv i σ H, ⟨n, 0, by simp, Nat.zero_le _, h0⟩, ?_⟩
  rintro m σ H ⟨i, rfl, hi, p⟩
  refine hs i σ H hi p _ (fun H1 q => ?_) fun H1 q => ?_
  · rw [if_pos rfl]
    exact ⟨Pv (i + 1), fun σ' H' p' => ⟨n - (i + 1), by have := q.1; omega, i + 1, rfl, q.1, p'⟩, q.2⟩
  · rw [if_neg Bool.false_ne_true]
    exact q
/-- both ways of a conditional expression hand on what P tells -/
theorem ite_any {c : Bool} {ta tb : TE} {σ : L2.St} {H : Hp} {Q : VK} (P : V → Hp → Prop) (ha : c = true → ∀ Q : VK, (∀ v H', P v H' → Q v H') → ta σ H Q) (hb : c = false → ∀ Q : VK, (∀ v H', P v H' → Q v H') → tb σ H Q) (h : ∀ v H', P v H' → Q v H') :
    if c = true then ta σ H Q else tb σ H Q := by
  cases c with
  | true => rw [if_pos rfl]; exact ha rfl Q h
  | false => rw [if_neg Bool.false_ne_true]; exact hb rfl Q h
theorem sq_past {K : PySem.W.Frag} {a p : Addr} {H H1 H2 : Hp} {xs : List V} (h : SqL K H a xs) (hp : H p = none) (s : L2.Same H H1) (st : Stay p H1 H2) : SqL K H2 a xs := by
  rcases h with (h | ⟨o, h⟩) | h
  · exact .inl (.inl (st _ _ (ne_of_none h hp) (s _ _ h)))
  · exact .inl (.inr ⟨o, st _ _ (ne_of_none h hp) (s _ _ h)⟩)
  · exact .inr h
theorem sq_same {K : PySem.W.Frag} {a : Addr} {H H1 : Hp} {xs : List V} (h : SqL K H a xs) (s : L2.Same H H1) : SqL K H1 a xs := by
  rcases h with (h | ⟨o, h⟩) | h
  · exact .inl (.inl (s _ _ h))
  · exact .inl (.inr ⟨o, s _ _ h⟩)
  · exact .inr h
theorem sq_off {K : PySem.W.Frag} {a D : Addr} {H : Hp} {xs : List V} (h : SqL K H a xs) (hD : H D = none) : ∀ (H2 : Hp) (o : HO), SqL K H2 a xs → SqL K (upd H2 D o) a xs := by
  intro H2 o h2
  have key : a ≠ D → SqL K (upd H2 D o) a xs := fun n => by
    rcases h2 with (h2 | ⟨u, h2⟩) | h2
    · exact .inl (.inl (by rw [upd_ne n]; exact h2))
    · exact .inl (.inr ⟨u, by rw [upd_ne n]; exact h2⟩)
    · exact .inr h2
  rcases h with (h | ⟨u, h⟩) | h
  · exact key (ne_of_none h hD)
  · exact key (ne_of_none h hD)
  · exact .inr h
/-- all of a row of truths -/
theorem all_true {n : Nat} : ((List.replicate n true).all id) = true := by
  rw [List.all_eq_true]
  intro x hx
  rw [List.eq_of_mem_replicate hx]
  rfl
end UL
namespace PySem.W
open PySem.Spec PyProof.Rows
section
variable {prog : Program} {w : World} {A : Around} {E : Value → Shared → Prop} {s : Shared} {K : Frag} {x C L f : Addr} {h₀ : Heap} {m : Str → Option Value} {ox : Obj} {od : Option Obj} {b tb : Value}
/-- x != b where the class has an own == alone -/
theorem ne_K {Q : Value → Shared → Prop} (hu : A.units + 1 < cLine) (F : Fr h₀ L s.heap m) (X₀ : K.In h₀) (I : InstAt s.heap x ox C od) (hb : Looks (model prog w) s.heap (typeOf b) tb) (hn : notFirst K C tb = true)
    (hne : findIn K (.ref C) "__ne__" = some (some (.builtin "object.__ne__"))) (hob : mroIn K C (.type "object") = some true) (hs : findIn K (.ref C) "__eq__" = some (some (.ref f))) (hf : isFn K (.ref f) = true)
    (h : wpAny (model prog w) A.in1 (call (.ref f) [.ref x, b]) (fun v s' => ∃ c, v = .bool c ∧ Q (.bool (!c)) s') E s) : wpAny (model prog w) A (richCompare .NotEq (.ref x) b) Q E s := by
  have X := X₀.keeps F.keep
  have S := PySem.F.cmp_object.ne
  have entry : ∀ {R : Fin → Shared → Prop}, (∀ c s', Q (.bool (!c)) s' → R (.done (.ret (.bool (!c)))) s') → wpAny (model prog w) A.in1 (Builtin.«object.__ne__» ⟨[.ref x, b], []⟩) R E s := fun {R} hR => by
    unfold Builtin.«object.__ne__»
    repeat (first
      | with_reducible refine wpAny_cRoomFor (show A.in1.units < cLine from hu) ?_
      | (refine wpAny_bind (m := callSpecialIfBound? (.ref x) (Str.ofString "__eq__") [b])
          (ifBound_K X I hs hf (wpAny_mono h (fun r s' hr => by
            obtain ⟨c, rfl, hq⟩ := hr
            repeat (first | exact hR _ _ hq | exact wpAny_pure (hR _ _ hq) | (refine wpAny_bind (m := truthy (.bool _)) (wpAny_truthy_bool ?_)) | wp_step)) fun _ _ e => e)))
      | wp_step)
  have one : wpAny (model prog w) A (tryCompare (.ref x) (cmpInfo .NotEq).2.1 b) (fun r s' => ∃ v, r = some v ∧ Q v s') E s := by
    unfold tryCompare
    refine wpAny_bind (m := callSpecialIfBound? (.ref x) (cmpInfo .NotEq).2.1 [b]) ?_
    simp only [callSpecialIfBound?, bindSpecialIfBound?]
    refine wpAny_holding (wpAny_bind (wpAny_bind (wpAny_bind (I.type.here ((looks_findIn X (show findIn K (.ref C) (cmpInfo .NotEq).2.1 = _ from hne)).here ?_)))))
    simp only [S.bind]
    refine wpAny_bind (wpAny_askSetting (wpAny_ite ?_))
    have sub : Looks (model prog w) s.heap (isInstance (.ref x) (.type "object")) true := I.type.andThen (looks_mroIn X hob)
    have fin : wpAny (model prog w) A (call (.builtin "object.__ne__") ([.ref x] ++ [b]) >>= fun v => pure (some v)) (fun r s' => wpAny (model prog w) A (match r with | some .notImplemented | none => pure none | some r => pure (some r)) (fun r s' => ∃ v, r = some v ∧ Q v s') E s') E s := by
      refine wpAny_bind (wpAny_call (codeAny_call_builtin S.plain PySem.F.cmpEntry_ne (check_slot PySem.F.cmpKind_ne PySem.F.cmpSplit_ne sub (PySem.F.cmpArgs_ne _ _) (entry fun c s' q => ?_))))
      exact wpAny_pure (wpAny_pure ⟨_, rfl, q⟩)
    split
    · exact wpAny_bind (wpAny_pure (wpAny_pure fin))
    · exact wpAny_tryCatch (wpAny_bind (wpAny_pure (wpAny_pure fin)))
  unfold richCompare
  simp only [oneThing_ref]
  refine wpAny_holding (wpAny_bind (wpAny_cRoomFor (Nat.lt_of_succ_lt hu) ?_))
  refine wpAny_bind (I.type.here (wpAny_bind (hb.here ?_)))
  split
  · rename_i q
    have e : subIn K tb (.ref C) = some false := by
      rcases Bool.or_eq_true_iff.mp hn with e | e
      · rw [beq_iff_eq.mp e] at q; simp at q
      · exact beq_iff_eq.mp e
    refine wpAny_bind ((looks_subIn X e).here ?_)
    simp only [Bool.false_eq_true, if_false]
    refine wpAny_bind (wpAny_mono one (fun r s' z => ?_) fun _ _ e => e)
    obtain ⟨v, rfl, hq⟩ := z
    exact wpAny_pure hq
  · refine wpAny_bind (wpAny_pure ?_)
    simp only [Bool.false_eq_true, if_false]
    refine wpAny_bind (wpAny_mono one (fun r s' z => ?_) fun _ _ e => e)
    obtain ⟨v, rfl, hq⟩ := z
    exact wpAny_pure hq
end
end PySem.W
namespace UL
open PySem PySem.Spec PyProof.Rows L2
section
variable {X : Cx} {CX : CXT} {C g : Addr} {n : Nat} {sp : Sp} {E : XK}
/-- x != y by the class's own == -/
def rNeI (K : PySem.W.Frag) (C : Addr) (sp : Sp) (E : XK) : R2 := fun x y H Q => ∃ (a dx : Addr) (fs : List (Str × V)) (t : Value), x = .ref a ∧ H a = some (.ins C dx fs) ∧ TyX K H y t ∧ PySem.W.notFirst K C t = true ∧ sp [x, y] H (fun z H' => ∃ c, z = .bl c ∧ Q (.bl (!c)) H') E
theorem op_neI (hne : PySem.W.findIn X.K (.ref C) "__ne__" = some (some (.builtin "object.__ne__"))) (ci : CIsi X.K C) (hs : PySem.W.findIn X.K (.ref C) "__eq__" = some (some (.ref g))) (hf : PySem.W.isFn X.K (.ref g) = true) (F : FnR X.prog X.w X.K X.mg X.base CX n g sp) (hr : Room (n + 1) X.A) (hx : Passes CX X E) :
    OpR X (compareOp .NotEq) (rNeI X.K C sp E) := by
  intro pins s σ H x y v u Q I rx ry h
  obtain ⟨a, dx, fs, t, rfl, ha, ty, hn, q⟩ := h
  cases (show v = Value.ref a from rx)
  obtain ⟨mA, O, _⟩ := ins_get I.hok ha
  obtain ⟨od, J, _⟩ := O.look
  obtain ⟨m, hF⟩ := I.fr
  obtain ⟨Pk, Z, pk, _⟩ := kit_of I ry ty
  show wpAny _ _ (richCompare .NotEq (.ref a) u) _ _ _
  refine PySem.W.ne_K (show X.A.units + 1 < cLine from hr.in1.units0) hF I.ok.mod.kin J (Z.ty _ _ I.kIn pk) hn hne ci.cm hs hf ?_
  refine wpAny_mono (wpAny_call (SlX.run_at (us := [.ref a, u]) (ws := [.ref a, y]) F hr.in1 I.env0.in1 hx I (.cons rfl (.cons ry .nil)) q)) (fun r s' z => ?_) fun _ _ e => e
  obtain ⟨z', H', I', rz, c, ez, qz⟩ := z
  subst ez
  cases (show r = Value.bool c from rz)
  exact ⟨c, rfl, .bl (!c), H', I', rfl, qz⟩
variable {k j : Nat}
theorem op_neS (c : CalS X.prog X.w X.K X.mg X.base k C "__eq__" sp) (hne : PySem.W.findIn X.K (.ref C) "__ne__" = some (some (.builtin "object.__ne__"))) (ci : CIsi X.K C) (hr : Room j X.A) (hk : k + 1 ≤ j) : OpR X (compareOp .NotEq) (rNeI X.K C sp E0) := by
  obtain ⟨f, F, h1, h2⟩ := c
  exact op_neI hne ci h1 h2 F (hr.mono hk) pass0
end
end UL
set_option Elab.async false
set_option linter.all false
set_option maxRecDepth 100000
set_option maxHeartbeats 4000000
/-! ### own exceptions over any built-in base, their __init__ walked as a def -/
namespace UL
open PySem PySem.Spec PyProof.Rows L2
open PySem.Builtin PySem.Builtin.ObjectAttr
/-- what the written part says of such a class -/
structure ExB (K : PySem.W.Frag) (C : Addr) (B newId initId : String) (bmB : List Value) : Prop where
  fb : ExcBaseFacts B newId initId bmB
  sf : StoreFacts B bmB "object.__setattr__" "object"
  cls : ∃ nm q N bs bm sn sub ab col dd k0 k1 k2 k3 k5, K.lookup C = some (excClassObj nm q C N bs bm true sn sub ab col dd k0 k1 k2 k3 k5 newId) ∧ PySem.W.excTail bmB bm = true
  sa : PySem.W.findIn K (.ref C) "__setattr__" = some (some (.builtin "object.__setattr__"))
  exC : PySem.W.subIn K (.ref C) (.type "BaseException") = some true
  tyC : PySem.W.typeIn K (.ref C) = some (.type "type")
  kC : PySem.W.keepIn K (.ref C) = true
section
variable {K : PySem.W.Frag} {C : Addr} {B newId initId : String} {bmB : List Value}
theorem ExB.has (T : ExB K C B newId initId bmB) : ∃ cd, PySem.W.clsIn K C = some cd ∧ cd.hasDict = true ∧ PySem.W.excOver K C bmB = true := by
  obtain ⟨nm, q, N, bs, bm, sn, sub, ab, col, dd, k0, k1, k2, k3, k5, hC, ht⟩ := T.cls
  have e : PySem.W.clsIn K C = some { name := nm, bases := bs, mro := .ref C :: bm, ns := N, qualname := q, hasDict := true, slotNames := sn, subclasses := sub, abstract := ab, collection := col, hasDel := false } := by
    unfold PySem.W.clsIn
    rw [hC] <;> rfl
  refine ⟨_, e, rfl, ?_⟩
  unfold PySem.W.excOver
  rw [e]
  simp [ht]
theorem taker_none {f : Str} (h : PySem.W.findIn K (.ref C) f = some none) : PySem.W.takerIn K C f = some none := by
  unfold PySem.W.takerIn
  rw [h]
  rfl
end
section
variable {X : Cx} {pins : List (Addr × Obj)} {σ : L2.St} {H : Hp} {s : Shared} {a C dx : Addr} {f : Str} {y : V} {u : Value} {fs : List (Str × V)} {Q : Unit → Shared → Prop} {E : Value → Shared → Prop} {A : Around} {B newId initId : String} {bmB : List Value}
/-- self.f = y on one that has no dict yet -/
theorem exs_new (T : ExB X.K C B newId initId bmB) (I : Inv X pins σ H s) (e : H a = some (exo a C none)) (hno : PySem.W.findIn X.K (.ref C) f = some none) (ry : RelV y u)
    (h : ∀ dx s', H dx = none → dx ≠ a → Inv X pins σ (upd (upd H dx (exd dx [(f, y)])) a (exo a C (some dx))) s' → Q () s') : wpAny (model X.prog X.w) A (setAttr (.ref a) f u) Q E s := by
  obtain ⟨cd, hcd, hdict, hover⟩ := T.has
  obtain ⟨t1, ho⟩ := exo_at I.hok e
  obtain ⟨hp, g, d, t, os⟩ := s
  have J : PySem.W.InstAt hp a { cls := .ref C, dict := none, data := .fields #[.ref t1, .none, .none, .none, .bool false, .none] } C none := ⟨ho, rfl, rfl, trivial⟩
  refine PySem.W.set_plain I.kIn J T.sa (PySem.W.osa_openX T.sf I.kIn J hover (taker_none hno) fun b => ?_)
  have hcl : PySem.W.Looks (model X.prog X.w) hp (classData C) cd := PySem.W.looks_clsIn I.kIn hcd
  have nx : a ≠ hp.objs.size := Nat.ne_of_lt (Heap.lt_size ho)
  show wpAny _ _ (storeInOwnDict (.ref a) (.ref C) _ f u b) _ _ _
  obtain ⟨nm, bs, mro, ns, qn, hd, sn, sb, ab, col, del⟩ := cd
  dsimp only at hdict
  subst hdict
  unfold storeInOwnDict ownDictForStores
  repeat (first
    | with_reducible refine PySem.HandSPX.store_in_new ?_ ?_
    | with_reducible refine wpAny_loadPart_at ho ?_
    | with_reducible refine hcl.at ?_
    | wp_step)
  · refine ⟨_, #[], _, (Heap.get?_update_ne _ _ _ _ nx.symm).trans (Heap.get?_push_at rfl rfl), rfl, ?_, fun _ => rfl⟩
    intro z hz
    exact absurd hz (by simp)
  · intro h' tk' hn hs
    have new : (hp.push { cls := .type "dict", data := .dict #[] }).get? a = some { cls := .ref C, data := .fields #[.ref t1, .none, .none, .none, .bool false, .none] } := Heap.get?_push_of_some _ ho
    have k : ∀ b o, b ≠ a → hp.get? b = some o → h'.get? b = some o := fun b o hb q =>
      (hs.2 b (Nat.ne_of_lt (Heap.lt_size q))).trans ((Heap.get?_update_ne _ _ _ _ hb).trans (Heap.get?_push_of_some _ q))
    have hx : h'.get? a = some { cls := .ref C, dict := some hp.objs.size, data := .fields #[.ref t1, .none, .none, .none, .bool false, .none] } := (hs.2 a nx).trans (Heap.get?_update_self _ new rfl)
    have hnd : H hp.objs.size = none := I.hok.fresh (Nat.le_refl _)
    have old : ∀ {b : Addr} {o : Obj}, hp.get? b = some o → b ≠ hp.objs.size := fun q => Nat.ne_of_lt (Heap.lt_size q)
    have off : ∀ {b : Addr}, H b = none → b ≠ a := fun n z => by
      rw [z, e] at n
      cases n
    have U : Un X.fs [] H (upd (upd H hp.objs.size (exd hp.objs.size [(f, y)])) a (exo a C (some hp.objs.size))) hp h' := by
      constructor
      case keep => exact fun b o q n _ _ => k b o (off n) q
      case slot => exact fun b o q n _ _ => ⟨o.slots, k b o (off n) q⟩
      case free => exact fun b o q n _ => by rw [upd_ne (off n), upd_ne (old q)]; exact n
      case there =>
        intro b o q _
        by_cases hb : b = a
        · exact ⟨_, by rw [hb]; exact hx⟩
        · exact ⟨o, k b o hb q⟩
      case tups => exact fun b xs q => by rw [upd_ne (at_ne e q exo_tup), upd_ne (ne_of_none q hnd)]; exact q
      case frzs => exact fun b o v q => by rw [upd_ne (at_ne e q exo_frz), upd_ne (ne_of_none q hnd)]; exact q
      case tbls =>
        intro b ps q
        refine ⟨#[], ?_⟩
        rw [upd_ne (at_ne e q exo_tbl), upd_ne (ne_of_none q hnd), q]
        simp
    have J2 := I.un (t' := tk') U fun b o q => by
      by_cases hb : b = a
      · subst hb
        rw [upd_same] at q
        cases q
        exact exo_ok hx
      rw [upd_ne hb] at q
      by_cases hd : b = hp.objs.size
      · subst hd
        rw [upd_same] at q
        cases q
        exact exd_ok hn (relO_put (fs := []) ry fun g => True.intro)
      rw [upd_ne hd] at q
      refine (I.hok b o q).stay (fun c v hc z => k c v ?_ z) (fun c hc => ?_) (fun c xs hc => ?_)
      · rcases hc with rfl | hc
        · exact hb
        · exact at_ne e hc exo_own
      · rw [upd_ne (at_ne e hc exo_own), upd_ne (ne_of_none hc hnd)]
        exact hc
      · rw [upd_ne (at_ne e hc exo_tup), upd_ne (ne_of_none hc hnd)]
        exact hc
    exact h hp.objs.size _ hnd nx.symm J2
/-- self.f = y on one that has its dict -/
theorem exs_old (T : ExB X.K C B newId initId bmB) (I : Inv X pins σ H s) (e : H a = some (exo a C (some dx))) (ed : H dx = some (exd dx fs)) (hl : fs.length ≤ 900) (hno : PySem.W.findIn X.K (.ref C) f = some none) (ry : RelV y u)
    (h : ∀ s', Inv X pins σ (upd H dx (exd dx ((f, y) :: fs))) s' → Q () s') : wpAny (model X.prog X.w) A (setAttr (.ref a) f u) Q E s := by
  obtain ⟨cd, hcd, hdict, hover⟩ := T.has
  obtain ⟨t1, ho⟩ := exo_at I.hok e
  obtain ⟨mA, hns, rel⟩ := exd_at I.hok ed
  have hw := within_of rel
  obtain ⟨hp, g, d, t, os⟩ := s
  obtain ⟨oD, _, _, hoD, _, _⟩ := hns.count hw
  have J : PySem.W.InstAt hp a { cls := .ref C, dict := some dx, data := .fields #[.ref t1, .none, .none, .none, .bool false, .none] } C (some oD) := ⟨ho, rfl, rfl, hoD⟩
  refine PySem.W.set_plain I.kIn J T.sa (PySem.W.osa_openX T.sf I.kIn J hover (taker_none hno) fun b => ?_)
  have hcl : PySem.W.Looks (model X.prog X.w) hp (classData C) cd := PySem.W.looks_clsIn I.kIn hcd
  show wpAny _ _ (storeInOwnDict (.ref a) (.ref C) _ f u b) _ _ _
  obtain ⟨nm, bs, mro, ns, qn, hd, sn, sb, ab, col, del⟩ := cd
  dsimp only at hdict
  subst hdict
  unfold storeInOwnDict ownDictForStores
  repeat (first
    | with_reducible refine PySem.OEX.store_in_old hns hw (by rw [List.length_map]; omega) ?_
    | with_reducible refine wpAny_loadPart_at ho ?_
    | with_reducible refine hcl.at ?_
    | wp_step)
  intro h' tk' hn hs
  have k : ∀ b o, b ≠ dx → hp.get? b = some o → h'.get? b = some o := fun b o hb q => (hs.2 b hb).trans q
  have there : ∃ o, h'.get? dx = some o := by
    obtain ⟨o, _, _, e', _⟩ := hn
    exact ⟨o, e'⟩
  exact h _ (I.write (t' := tk') (x := dx) (e := dx) (o := exd dx ((f, y) :: fs)) (by rw [ed]; exact True.intro) (.inl rfl) k there (exd_ok hn (relO_put ry rel)))
end
/-- self.f = e, self an exception of the class at C -/
def tExs (C : Addr) (f : Str) (to te : TE) : TS := fun D σ H => te σ H fun y H1 => to σ H1 fun x H2 => ∃ a : Addr, x = .ref a ∧
  ((H2 a = some (exo a C none) ∧ ∀ dx, H2 dx = none → dx ≠ a → D.nx σ (upd (upd H2 dx (exd dx [(f, y)])) a (exo a C (some dx)))) ∨
    ∃ (dx : Addr) (fs : List (Str × V)), H2 a = some (exo a C (some dx)) ∧ H2 dx = some (exd dx fs) ∧ fs.length ≤ 900 ∧ D.nx σ (upd H2 dx (exd dx ((f, y) :: fs))))
section
variable {X : Cx} {C : Addr} {B newId initId : String} {bmB : List Value} {o e : Expr} {es : List Expr} {to te : TE} {ta : TA} {f : Str} {p p' pos : Pos}
theorem ps_exs (T : ExB X.K C B newId initId bmB) (hno : PySem.W.findIn X.K (.ref C) f = some none) (he : PE X e te) (ho : PE X o to) (hs : swapsWith e (some (.Attribute o f p')) pos.line X.env = pure false := by rfl) : PS X (.Assign [.Attribute o f p'] e pos) (tExs C f to te) := by
  refine ⟨fun pins s σ H D I h => plainObj_wpAny_Assign_Attribute (thn (he.run pins s σ H _ I h) fun v s1 ⟨y, H1, I1, r1, q1⟩ => thn (ho.run pins s1 σ H1 _ I1 q1) fun u s2 ⟨x, H2, I2, r2, a, ex, q⟩ => ?_) hs⟩
  subst ex
  cases (show u = Value.ref a from r2)
  rcases q with ⟨ea, q⟩ | ⟨dx, fs, ea, ed, hl, q⟩
  · exact exs_new T I2 ea hno r1 fun dx s' n ne J => ⟨σ, _, J, q dx n ne⟩
  · exact exs_old T I2 ea ed hl hno r1 fun s' J => ⟨σ, _, J, q⟩
/-- what an __init__ does that keeps its values in these fields -/
def spExI (C : Addr) (fs : List Str) : Sp := fun vs H Q _ => ∃ (a : Addr) (ws : List V), vs = .ref a :: ws ∧ ws.length = fs.length ∧ H a = some (exo a C none) ∧
  ∀ (d : Addr) (H' : Hp), H d = none → d ≠ a → (H' = fun b => if b = a then some (exo a C (some d)) else if b = d then some (exd d (fs.zip ws).reverse) else H b) → Q .non H'
/-- C(e, ..): the error's class, its own new dict -/
def tMkE (C : Addr) (fs : List Str) (ta : TA) : L2.St → Hp → XK → Prop := fun σ H Q => ta σ H fun ws H1 => ws.length = fs.length ∧ ∀ d, H1 d = none → Q (.ref C) (some d) (upd H1 d (.xd (fs.zip ws).reverse))
theorem pmk_exB {x : Str} {fI : Addr} {k j : Nat} {fd : FuncData} {ps : List Str} {fs : List Str} (T : ExB X.K C B newId initId bmB) (iC : PySem.W.findIn X.K (.ref C) "__init__" = some (some (.ref fI))) (tI : PySem.W.typeIn X.K (.ref fI) = some (.type "function"))
    (F1 : FnOk X.prog X.w X.K X.mg X.base CX0 k fI fd ps (spExI C fs)) (hr : Room j X.A) (hk : k + 1 ≤ j) (hb : Binds X.K fd ps []) (hf : fs.length ≤ 1000) (hg : Gl X x) (hm : X.mg x = some (.ref C)) (ha : PA X (e :: es) ta)
    (hdb : (x == ("__debug__" : Str)) = false := by decide) (he : starEach (e :: es) X.env = (false, eval e X.env) :: starEach es X.env := by rfl) (hpl : (backTo pos (starEach es X.env)).any (·.1) = false := by rfl) :
    PMk X (.Call (.Name x p) (e :: es) [] pos) (tMkE C fs ta) := by
  intro pins s σ H Q I h
  obtain ⟨nm, q, N, bs, bm, sn, sub, ab, col, dd, k0, k1, k2, k3, k5, hC, ht⟩ := T.cls
  refine wpAny_Call_Name_kw (ld_glob I hg hm ?_ hdb)
  refine PySem.W.callWith_K (h₀ := X.base) I.ok.mod.kin T.kC (thn (ha.run pos pins s σ H _ I h) fun us s1 ⟨ws, H1, I1, r1, hz, q1⟩ => ⟨I1.kIn, ?_⟩) he hpl
  show wpAny _ _ (call (.ref C) us) _ _ _
  obtain ⟨hp, g, dr, tk, os⟩ := s1
  have hn : H1 (hp.objs.size + 1) = none := I1.hok.fresh (Nat.le_succ _)
  have keep : ∀ b o, hp.get? b = some o → ((hp.push (PySem.W.kdv_tup us)).push (PySem.HandSPX.excO C hp.objs.size)).get? b = some o := fun b o z => Heap.get?_push_of_some _ (Heap.get?_push_of_some _ z)
  have made : ((hp.push (PySem.W.kdv_tup us)).push (PySem.HandSPX.excO C hp.objs.size)).get? (hp.objs.size + 1) = some (PySem.HandSPX.excO C hp.objs.size) := by heap_get
  have I2 := I1.laid (t' := tk) (a := hp.objs.size + 1) (o := exo (hp.objs.size + 1) C none) (h' := (hp.push (PySem.W.kdv_tup us)).push (PySem.HandSPX.excO C hp.objs.size)) keep (Nat.le_succ _) (exo_ok made)
  have r2 : Vals (V.ref (hp.objs.size + 1) :: ws) (Value.ref (hp.objs.size + 1) :: us) := .cons rfl r1
  have body : spExI C fs (V.ref (hp.objs.size + 1) :: ws) (upd H1 (hp.objs.size + 1) (exo (hp.objs.size + 1) C none))
      (fun v H2 => v = .non ∧ ∃ (d : Addr) (gs : List (Str × V)), H2 (hp.objs.size + 1) = some (exo (hp.objs.size + 1) C (some d)) ∧ H2 d = some (exd d gs) ∧ H1 d = none ∧ Q (.ref C) (some d) (upd (del H2 (hp.objs.size + 1)) d (.xd gs))) (fun _ _ _ => False) := by
    refine ⟨_, ws, rfl, hz, upd_same, fun d H' hd hne hH => ⟨rfl, d, (fs.zip ws).reverse, ?_, ?_, ?_, ?_⟩⟩
    · rw [hH]
      exact if_pos rfl
    · rw [hH]
      show (if d = _ then _ else if d = d then _ else _) = _
      rw [if_neg hne, if_pos rfl]
    · rw [upd_ne hne] at hd
      exact hd
    · have hd1 : H1 d = none := by
        rw [upd_ne hne] at hd
        exact hd
      have eH : upd (del H' (hp.objs.size + 1)) d (.xd (fs.zip ws).reverse) = upd H1 d (.xd (fs.zip ws).reverse) := by
        funext b
        by_cases c1 : b = d
        · rw [c1, upd_same, upd_same]
        rw [upd_ne c1, upd_ne c1]
        by_cases c2 : b = hp.objs.size + 1
        · rw [c2, del_same, hn]
        rw [del_ne c2, hH]
        show (if b = _ then _ else if b = d then _ else _) = _
        rw [if_neg c2, if_neg c1, upd_ne c2]
      rw [eH]
      exact q1 d hd1
  have hl : (Value.ref (hp.objs.size + 1) :: us).length = ps.length := r2.length.symm.trans (F1.len _ _ _ _ body)
  have b := hb ⟨(hp.push (PySem.W.kdv_tup us)).push (PySem.HandSPX.excO C hp.objs.size), g, dr, tk, os⟩ (Value.ref (hp.objs.size + 1) :: us) I2.kIn (by rw [List.append_nil]; exact hl)
  rw [List.append_nil] at b
  have hus : us.length ≤ sizeLine := line_ge (by rw [← r1.length, hz]; omega)
  refine wpAny_call (PySem.HandSPX.call_own T.fb (fun Y => PySem.W.excTail_contains Y bm ht) (I1.kIn _ _ hC) (PySem.W.looks_findIn I1.kIn iC) (fun self => PySem.W.bind_fn I1.kIn self tI) hus
    (codeAny_mono (F1.run _ X.stack _ _ ⟨Value.ref (hp.objs.size + 1) :: us, []⟩ (Value.ref (hp.objs.size + 1) :: us) _ _ (fun _ _ _ => False) ((hr.mono hk).make C us []) (I2.env0.make C us []) b r2 body) fun r s' hq => ?_))
  rcases r with er | fl
  · exact pass0 pins σ _ _ er s' I2 hq
  cases fl with
  | next => exact hq.elim
  | brk => exact hq.elim
  | cont => exact hq.elim
  | ret u =>
    obtain ⟨v, H2, os2, bare2, un2, hok2, rv, ev, d, gs, ea, ed, hd1, q2⟩ := hq
    subst ev
    obtain ⟨h2, g2, d2, t2, os'⟩ := s'
    exact ⟨rv, mk_end (raises_own T.exC T.tyC) I1 (Nat.le_succ _) keep un2 hok2 os2 bare2 ea ed hd1 q2⟩
end
end UL
set_option Elab.async false
set_option linter.all false
set_option maxRecDepth 100000
set_option maxHeartbeats 4000000
/-! ### try with several clauses «except C as n» -/
namespace UL
open PySem PySem.Spec PyProof.Rows L2
/-- behind a suite its name is gone -/
def endsOff (D : Ends) (i : Nat) : Ends := { nx := fun σ' H' => D.nx (σ'.set i none) H', rt := D.rt, bk := fun σ' H' => D.bk (σ'.set i none) H', ct := fun σ' H' => D.ct (σ'.set i none) H' }
/-- what the clauses wish of an exception: class, slot, suite -/
def wAsN (K : PySem.W.Frag) (Wout : WX) (D : Ends) : List (Value × Nat × (Addr → Value → Option Addr → TS)) → WX
  | [] => Wout
  | (c, i, ts) :: r => fun cls d σ H => ∃ b, PySem.W.exmOne K cls c = some b ∧ (b = true → ∀ a, H a = none → ts a cls d (endsOff D i) (σ.set i (some (.ref a))) H) ∧ (b = false → wAsN K Wout D r cls d σ H)
inductive Clauses (X : Cx) : List ExceptHandler → List (Value × Nat × (Addr → Value → Option Addr → TS)) → Prop
  | nil : Clauses X [] []
  | cons {x n : Str} {i : Nat} {c : Value} {ts : Addr → Value → Option Addr → TS} {b₀ : Stmt} {suite : List Stmt} {np ps : Pos} {hds : List ExceptHandler} {l : List (Value × Nat × (Addr → Value → Option Addr → TS))} (hi : X.N[i]? = some n) (hl : X.env.kindOf n = some .local) (hc : Names X x c)
      (go : ∀ (a : Addr) (oe : Obj) (cls : Value) (d : Option Addr) (pn : List (Addr × Obj)), Zc cls d oe → (∃ vs, oe.data = .fields vs) → PSs (X.suite a ((a, oe) :: pn)) (b₀ :: suite) (ts a cls d)) (more : Clauses X hds l) :
      Clauses X (.ExceptHandler (some (.Name x np)) (some n) (b₀ :: suite) ps :: hds) ((c, i, ts) :: l)
section
variable {X : Cx} {body : List Stmt} {h₀ : ExceptHandler} {hds : List ExceptHandler} {l : List (Value × Nat × (Addr → Value → Option Addr → TS))} {pos : Pos} {tb : WX → TS} {Wout : WX}
theorem ps_tries (hs : X.stack = X.env :: X.outer) (hf : X.env.frame = some X.env.locals) (hN : X.N.Nodup) (tk : Takes X Wout)
    (hb : ∀ (W : WX) (pn : List (Addr × Obj)) (xe : Value → Shared → Prop), Takes (X.tr pn xe) W → PassesOwn (model X.prog X.w) X.A X.env xe → PSs (X.tr pn xe) body (tb W))
    (hh : Clauses X (h₀ :: hds) l) : PS X (.Try body (h₀ :: hds) [] [] pos) (fun D σ H => tb (wAsN X.K Wout D l) D σ H) := by
  refine ⟨fun pins s σ H D I h => ?_⟩
  have ok := I.ok
  have hfr : X.A.frames = some (X.env :: X.outer) := by rw [ok.frames, hs]
  let look : Value → Shared → Prop := fun e s₁ => wpAny (model X.prog X.w) X.A (noteFrame e X.env) (fun _ s₂ => wpAny (model X.prog X.w) X.A (setFlight e none) (fun _ s₃ => wpAny (model X.prog X.w) X.A (handleBy e X.env (h₀ :: hds)) (SP X pins D) X.xe s₃) X.xe s₂) X.xe s₁
  refine wpAny_Try_except (wpAny_mono ((hb (wAsN X.K Wout D l) (X.pn ++ pins) look (fun u s' xx => ?_) PassesOwn.looking).run [] s σ H D (I.toTry _) h) (fun f s1 hsp => ?_) fun e s1 he => he)
  · obtain ⟨a, B, sI, pins', σ', H', cls, d, rfl, J', nb, up, sky, na, os, ag, w⟩ := xx
    have J : Inv X pins σ' H' sI := J'.ofTry ok
    have sky2 : Sky B (X.env :: X.outer) a (Zc cls d) X.env.locals s'.heap := by rw [← hs]; exact sky
    show wpAny (model X.prog X.w) X.A (noteFrame (.ref a) X.env) _ _ _
    refine Sky.land Zc.steady hfr hf sky2 fun h3 fl3 up3 => ?_
    have J3 : Inv X pins σ' H' { s' with heap := h3 } := J.landed nb fl3.1 (up.trans up3) os ag
    obtain ⟨oe3, vs3, he3, hz3, hd3⟩ := fl3.there
    have nfr : a ∉ frs (X.env :: X.outer) := fun hm => by
      obtain ⟨_, o', e', bad⟩ := fl3.2.2.1.mem hm
      cases he3.symm.trans e'
      exact bad _ hd3
    have nL : a ≠ X.env.locals := fun z => nfr (List.mem_filterMap.mpr ⟨X.env, List.mem_cons_self, by rw [hf, z]⟩)
    have nF : a ∉ X.fs := fun hm => by
      obtain ⟨en, hen, q⟩ := List.mem_filterMap.mp hm
      exact nfr (List.mem_filterMap.mpr ⟨en, List.mem_cons_of_mem _ hen, q⟩)
    have S3 := J3.suite he3 hd3 na nL nF
    have LT : PySem.W.Looks (model X.prog X.w) h3 (typeOf (.ref a)) cls := fun A Q E s k q => wpAny_typeOf_ref (k _ _ he3) (by rw [hz3.1]; exact q)
    have turn : ∀ {hds' : List ExceptHandler} {l' : List (Value × Nat × (Addr → Value → Option Addr → TS))}, Clauses X hds' l' → wAsN X.K Wout D l' cls d σ' H' → wpAny (model X.prog X.w) X.A (handleBy (.ref a) X.env hds') (SP X pins D) X.xe { s' with heap := h3 } := by
      intro hds' l' hk
      induction hk with
      | nil =>
        intro w
        refine wpAny_handleBy_nil ?_
        obtain ⟨_, _, _, oe, vs, T, oT, ts', he, hz, hd, h1, hr⟩ := id fl3
        unfold PySem.passOn
        refine wpAny_bind (wpAny_field he hd h1 ?_)
        rw [if_neg (show ¬ ((Value.ref T == Value.none) = true) by simp)]
        have out : wpAny (model X.prog X.w) X.A (setFlight (.ref a) X.env.frame) (fun _ s4 => wpAny (model X.prog X.w) X.A (throw (.ref a) : Sem Flow) (SP X pins D) X.xe s4) X.xe { s' with heap := h3 } := by
          rw [hf]
          refine HandSPX.setFlight_upZ fl3 fun h4 hh4 up4 => wpAny_throw (tk _ _ ⟨a, B, sI, pins, σ', H', cls, d, rfl, J, nb, (up.trans up3).trans up4, .inr (.inr ?_), na, os, ag, w⟩)
          rw [hs]
          exact hh4
        first | exact wpAny_bind (wpAny_pure (wpAny_bind out)) | exact wpAny_bind out
      | @cons x n i c ts b₀ suite np ps hds2 l2 hi hl hc go more ih =>
        intro w
        obtain ⟨b, hb1, yes, no⟩ := w
        refine wpAny_handleBy_cons (codeAny_handlers_test ?_) (by intro q; cases q)
        have asks : ∀ {Q : Value → Shared → Prop} {E : Value → Shared → Prop}, Q c { s' with heap := h3 } → wpAny (model X.prog X.w) (X.A.mark (some (.ref a))) (eval (.Name x np) X.env) Q E { s' with heap := h3 } := fun {Q E} q => by
          obtain ⟨hg, hdb, hm | ⟨hm, hv, hn⟩⟩ := hc
          · exact ld_glob (X := X.suite a ((a, oe3) :: (X.pn ++ pins))) S3 hg hm q hdb
          · exact ld_blt (X := X.suite a ((a, oe3) :: (X.pn ++ pins))) S3 hg hm hv q hn hdb
        refine asks ((PySem.W.exm_one (M := model X.prog X.w) J3.kIn LT hb1).here ?_)
        cases b with
        | false => exact ih (no rfl)
        | true =>
          refine codeAny_handlers_suite_as (HandSPX.lands_againZ fl3 fun h4 fl4 up4 => ?_)
          have J4 : Inv X pins σ' H' { s' with heap := h4 } := J.landed nb fl4.1 ((up.trans up3).trans up4) os ag
          obtain ⟨oe4, vs4, he4, hz4, hd4⟩ := fl4.there
          refine store_ok (X := X.suite a ((a, oe4) :: (X.pn ++ pins))) (v := .ref a) (J4.suite he4 hd4 na nL nF) hN hi (.inl hl) rfl (fun s5 S5 => ?_) (.inr hl)
          refine wpAny_mono ((go a oe4 cls d (X.pn ++ pins) hz4 ⟨_, hd4⟩).run [] s5 _ H' _ S5 (yes rfl a na)) (fun f s6 hsp => ?_) fun _ _ z => False.elim z
          have gone : ∀ {σ6 : L2.St} {H6 : Hp} {Q : Shared → Prop}, Inv (X.suite a ((a, oe4) :: (X.pn ++ pins))) [] σ6 H6 s6 → (∀ s7, Inv X pins (σ6.set i none) H6 s7 → Q s7) →
              wpAny (model X.prog X.w) X.A (do bindName X.env n .none; unbindBehindTheSuite X.env n ps) (fun _ s7 => Q s7) X.xe s6 := fun {σ6 H6 Q} S6 hq => gone_ok (S6.unsuite ok) hN hi hl hq
          cases f with
          | next =>
            obtain ⟨_, _, S6, q6⟩ := hsp
            exact gone S6 fun s7 J7 => ⟨_, _, J7, q6⟩
          | brk =>
            obtain ⟨_, _, S6, q6⟩ := hsp
            exact gone S6 fun s7 J7 => ⟨_, _, J7, q6⟩
          | cont =>
            obtain ⟨_, _, S6, q6⟩ := hsp
            exact gone S6 fun s7 J7 => ⟨_, _, J7, q6⟩
          | ret u =>
            obtain ⟨_, _, _, S6, r6, q6⟩ := hsp
            exact gone S6 fun s7 J7 => ⟨_, _, _, J7, r6, q6⟩
    exact turn hh w
  · cases f with
    | ret u =>
      obtain ⟨v, _, _, J', r, q⟩ := hsp
      exact ⟨v, _, _, J'.ofTry ok, r, q⟩
    | next =>
      obtain ⟨_, _, J', q⟩ := hsp
      exact wpAny_execs_nil ⟨_, _, J'.ofTry ok, q⟩
    | brk =>
      obtain ⟨_, _, J', q⟩ := hsp
      exact ⟨_, _, J'.ofTry ok, q⟩
    | cont =>
      obtain ⟨_, _, J', q⟩ := hsp
      exact ⟨_, _, J'.ofTry ok, q⟩
end
end UL
set_option Elab.async false
set_option linter.all false
set_option maxRecDepth 100000
set_option maxHeartbeats 4000000
/-! ### what a caller knows of a def that may raise -/
namespace UL
open PySem PySem.Spec PyProof.Rows L2
section
variable (P : Program) (w : World) (K : PySem.W.Frag) (mg : Str → Option Value) (base : Heap)
def CalE (k : Nat) (x : Str) (sp : Sp) : Prop := ∃ f fd ps, FnOk P w K mg base (L2.CX P w) k f fd ps sp ∧ PySem.W.keepIn K (.ref f) = true ∧ Binds K fd ps [] ∧ mg x = some (.ref f)
def CalME (k : Nat) (C : Addr) (m : Str) (sp : Sp) : Prop := ∃ f fd ps, FnOk P w K mg base (L2.CX P w) k f fd ps sp ∧ Cls K C ∧ Meth K C m f ∧ Binds K fd ps []
def CalSE (k : Nat) (C : Addr) (m : Str) (sp : Sp) : Prop := ∃ f, FnR P w K mg base (L2.CX P w) k f sp ∧ PySem.W.findIn K (.ref C) m = some (some (.ref f)) ∧ PySem.W.isFn K (.ref f) = true
def MakRE (k : Nat) (x : Str) (C : Addr) (sp : Sp) : Prop := ∃ f, FnR P w K mg base (L2.CX P w) k f sp ∧ Mk K C f ∧ mg x = some (.ref C)
/-- an error's class: what its __init__ keeps -/
def MakE (k : Nat) (x : Str) (C : Addr) (fs : List Str) : Prop := ∃ B n i bm fI fd ps, ExB K C B n i bm ∧ PySem.W.findIn K (.ref C) "__init__" = some (some (.ref fI)) ∧ PySem.W.typeIn K (.ref fI) = some (.type "function") ∧ FnOk P w K mg base CX0 k fI fd ps (spExI C fs) ∧ Binds K fd ps [] ∧ mg x = some (.ref C)
end
section
variable {X : Cx} {E : XK}
/-- what leaves a def leaves it by its own promise -/
theorem px_def {E₁ : Value → Shared → Prop} (hs : X.stack = X.env :: X.outer) (hf : X.env.frame = some X.env.locals) (hex : X.ex = [])
    (hx : X.xe = fun e s' => wpAny (model X.prog X.w) X.A (leaving X.env e) (fun _ s'' => L2.CX X.prog X.w X.outer X.H_0 X.s_0 E e s'') E₁ s') : Passes (L2.CX X.prog X.w) X E := passes_call (takes_of hs hf hex hx) fun _ _ _ _ h => h
/-- nothing is raised -/
theorem px_none : Passes (L2.CX X.prog X.w) X E0 := fun _ _ _ _ _ _ _ h => by
  obtain ⟨_, _, _, _, _, _, _, _, _, _, _, _, z⟩ := h
  exact z.elim
variable {k j : Nat} {x m : Str} {C : Addr} {sp : Sp} {e o : Expr} {es : List Expr} {fs : List Str} {t : TA} {ta te : TE} {p pos apos : Pos}
theorem pe_cE (c : CalE X.prog X.w X.K X.mg X.base k x sp) (px : Passes (L2.CX X.prog X.w) X E) (hr : Room j X.A) (hk : k ≤ j) (hg : Gl X x) (ha : PA X (e :: es) t) (hdb : (x == ("__debug__" : Str)) = false := by decide)
    (he : starEach (e :: es) X.env = (false, eval e X.env) :: starEach es X.env := by rfl) (hpl : (backTo pos (starEach es X.env)).any (·.1) = false := by rfl) : PE X (.Call (.Name x p) (e :: es) [] pos) (tCall sp [] E t) := by
  obtain ⟨f, fd, ps, F, kp, b, g⟩ := c
  exact pe_call F (hr.mono hk) hg g kp b .nil px ha hdb he hpl
theorem pe_mE {pl : Sem Bool} (he : PE X o ta) (c : CalME X.prog X.w X.K X.mg X.base k C m sp) (px : Passes (L2.CX X.prog X.w) X E) (hr : Room j X.A) (hk : k ≤ j) (ha : PA X (e :: es) t)
    (hst : starEach (e :: es) X.env = (false, eval e X.env) :: starEach es X.env := by rfl) (hpl : (backTo pos (starEach es X.env)).any (·.1) = false := by rfl)
    (ht : eval (.Call (.Attribute o m apos) (e :: es) [] pos) X.env = (do
      let ov ← eval o X.env
      standAt apos.atName
      let (fv, fi) ← holding [ov] (getMethod ov m pl)
      callWith pos fv fi (backTo pos (starEach (e :: es) X.env)) (backToKw pos (keywordEach [] X.env))) := by rfl) :
    PE X (.Call (.Attribute o m apos) (e :: es) [] pos) (tMeth C m sp [] E ta t) := by
  obtain ⟨f, fd, ps, F, cl, mt, b⟩ := c
  exact pe_meth he cl mt F (hr.mono hk) b .nil px ha hst hpl ht
theorem pe_nR2E (c : MakRE X.prog X.w X.K X.mg X.base k x C sp) (px : Passes (L2.CX X.prog X.w) X E) (hr : Room j X.A) (hk : k + 1 ≤ j) (hg : Gl X x) (ha : PA X (e :: es) t) (h3 : (x == ("__debug__" : Str)) = false := by decide)
    (h4 : starEach (e :: es) X.env = (false, eval e X.env) :: starEach es X.env := by rfl) (h5 : (backTo pos (starEach es X.env)).any (·.1) = true := by rfl) : PE X (.Call (.Name x p) (e :: es) [] pos) (StX.tMakeR C sp E t) := by
  obtain ⟨f, F, M, m⟩ := c
  refine ⟨fun pins s σ H Q I h => wpAny_Call_Name_kw (ld_glob I hg m ?_ h3)⟩
  exact PySem.W.callWith_S2 (h₀ := X.base) I.ok.mod.kin M.kp (thn (ha.run pos pins s σ H _ I h) fun us s1 ⟨vs, H1, J, rv, q⟩ => ⟨J.kIn, StX.run_makeR M F (hr.mono hk) px J rv q⟩) h4 h5
theorem op_addSE (c : CalSE X.prog X.w X.K X.mg X.base k C "__add__" sp) (px : Passes (L2.CX X.prog X.w) X E) (hc : PySem.W.selfFirst X.K C = true) (hr : Room j X.A) (hk : k ≤ j) : OpR X (binaryOp .Add) (rOpO X.K C "add" sp E) := by
  obtain ⟨f, F, h1, h2⟩ := c
  exact op_addO hc h1 h2 F (hr.mono hk) px
variable {T : String}
theorem op_addSTE (c : CalSE X.prog X.w X.K X.mg X.base k C "__add__" sp) (px : Passes (L2.CX X.prog X.w) X E) (o : OwnT X.K C T "add") (hr : Room j X.A) (hk : k ≤ j) : OpR X (binaryOp .Add) (rOpT C T sp E) := by
  obtain ⟨f, F, h1, h2⟩ := c
  exact op_ownT (op := .Add) o (by show PySem.W.findIn X.K (.ref C) (PySem.dunder "add") = _; rw [du_add]; exact h1) h2 F (hr.mono hk) px
theorem op_mulSTE (c : CalSE X.prog X.w X.K X.mg X.base k C "__mul__" sp) (px : Passes (L2.CX X.prog X.w) X E) (o : OwnT X.K C T "mul") (hr : Room j X.A) (hk : k ≤ j) : OpR X (binaryOp .Mult) (rOpT C T sp E) := by
  obtain ⟨f, F, h1, h2⟩ := c
  exact op_ownT (op := .Mult) o (by show PySem.W.findIn X.K (.ref C) (PySem.dunder "mul") = _; rw [du_mul]; exact h1) h2 F (hr.mono hk) px
theorem op_raddSE (c : CalSE X.prog X.w X.K X.mg X.base k C "__radd__" sp) (px : Passes (L2.CX X.prog X.w) X E) (o : RadT X.K C T) (hr : Room j X.A) (hk : k ≤ j) : OpR X (binaryOp .Add) (rOpTR C T sp E) := by
  obtain ⟨f, F, h1, h2⟩ := c
  obtain ⟨fa, ha⟩ := o.ad
  obtain ⟨fo, ro, t1, t2, t3⟩ := o.t
  exact op_raddT o.sf ha t1 t2 t3 h1 h2 F (hr.mono hk) px
/-- an error made, to be raised -/
theorem pmk_E (c : MakE X.prog X.w X.K X.mg X.base k x C fs) (hr : Room j X.A) (hk : k + 1 ≤ j) (hf : fs.length ≤ 1000) (hg : Gl X x) (ha : PA X (e :: es) t) (hdb : (x == ("__debug__" : Str)) = false := by decide)
    (he : starEach (e :: es) X.env = (false, eval e X.env) :: starEach es X.env := by rfl) (hpl : (backTo pos (starEach es X.env)).any (·.1) = false := by rfl) : PMk X (.Call (.Name x p) (e :: es) [] pos) (tMkE C fs t) := by
  obtain ⟨B, n, i, bm, fI, fd, ps, T, iC, tI, F, b, g⟩ := c
  exact pmk_exB T iC tI F hr hk b hf hg g ha hdb he hpl
end
/-! ### a def whose code object is known: it makes lambdas -/
structure FunC (K : PySem.W.Frag) (x qual : Str) (st : Stmt) (f : Addr) (fd : FuncData) (c : Addr) : Prop where
  ex : ∃ (oc : Value) (od : Option Addr) (kV doc pm : Value) (an : Option Addr) (ct : Value) (osl : Array (Option Value)),
    fd = PySem.W.fnOf x qual (defArgs st) (defBody st) (defScope st) .none kV doc pm an (.ref c) ct ∧ K.lookup f = some ⟨oc, od, .func fd, osl⟩ ∧ PySem.W.codeIn K (.ref c) qual = true
  kp : PySem.W.keepIn K (.ref f) = true
section
variable {P : Program} {w : World} {K : PySem.W.Frag} {mg : Str → Option Value} {base : Heap}
theorem FunC.ok {x qual : Str} {st : Stmt} {f c : Addr} {fd : FuncData} {N ps : List Str} {k : Nat} {sp : Sp} (F : FunC K x qual st f fd c) (S : FnScope N ps (defScope st)) (len : ∀ vs H Q E, sp vs H Q E → vs.length = ps.length)
    (go : ∀ (A : Around) (outer : List Env) (s : Shared) (H : Hp) (vs : List V) (Q : VK) (E : XK), Room k (A.deeper (envOfC qual (defScope st) s.heap.objs.size f (.ref c))) → sp vs H Q E →
      ∃ t, PSs (cxOf CX0 P w K mg base N qual (defScope st) f (.ref c) A outer s H E).nox (defBody st) t ∧ t { nx := fun _ H' => Q .non H', rt := Q } (start N vs) H) : FnOk P w K mg base CX0 (k + 1) f fd ps sp := by
  obtain ⟨oc, od, kV, doc, pm, an, ct, osl, rfl, lk, hcd⟩ := F.ex
  refine fn_of lk hcd S len fun A outer s H vs Q E hr hsp => ?_
  obtain ⟨t, h, q⟩ := go A outer s H vs Q E hr hsp
  exact ⟨t, h.nox, q⟩
theorem FunC.fun {x qual : Str} {st : Stmt} {f c : Addr} {fd : FuncData} (F : FunC K x qual st f fd c) : Fun K x qual st f fd := by
  obtain ⟨oc, od, kV, doc, pm, an, ct, osl, e, lk, hcd⟩ := F.ex
  exact ⟨⟨oc, od, kV, doc, pm, an, _, ct, osl, e, lk, hcd⟩, F.kp⟩
end
end UL
set_option Elab.async false
set_option linter.all false
set_option maxRecDepth 100000
set_option maxHeartbeats 4000000
/-! ### a lambda handed to a def whose clauses look at the slots -/
namespace UL
open PySem PySem.Spec PyProof.Rows L2 LamX
section
variable {X : Cx} {pins : List (Addr × Obj)} {σ : L2.St} {H : Hp} {s : Shared}
/-- what a() does in the def that got the lambda at f: its code object's name q stands at c' -/
def tDeed (i : Nat) (f c' : Addr) (q : Str) (W : WX) (tl : XK → Hp → VK → Prop) : TE := fun σZ HZ Q => σZ[i]? = some (some (.ref f)) ∧ HZ c' = some (CodeO c' q) ∧ tl (WE W σZ) HZ Q
theorem pe_deed {CXg : CXT} {Eg : XK} {Ng : List Str} {qg : Str} {sg : Scope} {g f c' : Addr} {cdg pm ctv : Value} {params : Arguments} {body : Expr} {scope : Scope} {k i : Nat} {a : Str} {pn : List (Addr × Obj)} {xe : Value → Shared → Prop} {W : WX} {tb : XK → TE} {p1 p2 : Pos}
    (I : Inv X pins σ H s) (L : LamS X.env.scope scope) (hf : s.heap.get? f = some (PySem.W.kla_obj "<lambda>" (X.env.qual ++ "<lambda>") params body scope (cloFrom X.env.cells scope.names []) pm c' ctv)) (hfn : H f = none) (hfr : f ∉ frs X.stack)
    (hbind : bindArgs (PySem.W.kla_fn "<lambda>" (X.env.qual ++ "<lambda>") params body scope (cloFrom X.env.cells scope.names []) pm (.ref c') ctv) ⟨[], []⟩ = pure [])
    (tk : Takes ((cxOf CXg X.prog X.w X.K X.mg X.base Ng qg sg g cdg X.A X.stack s H Eg).tr pn xe) W) (hr : Room (k + 1) (X.A.deeper (envOfC qg sg s.heap.objs.size g cdg)))
    (hbody : ∀ (A : Around) (outer : List Env) (s : Shared) (H : Hp) (E : XK), Room k (A.deeper (lamEnv X scope s.heap.objs.size f c')) → PE (lamCx X A outer s H E scope f c') body (tb E))
    (hN : Ng[i]? = some a) (hv : Vis sg a) (hd : (a == ("__debug__" : Str)) = false) (hcd : (a == ("__classdict__" : Str)) = false) :
    PE ((cxOf CXg X.prog X.w X.K X.mg X.base Ng qg sg g cdg X.A X.stack s H Eg).tr pn xe) (.Call (.Name a p1) [] [] p2) (tDeed i f c' (X.env.qual ++ "<lambda>") W fun E H' Q' => tb E σ H' Q') := by
  refine ⟨fun pinsZ sZ σZ HZ Q IZ hh => ?_⟩
  obtain ⟨at_, hc, ht⟩ := hh
  have E : XK := WE W σZ
  refine wpAny_Call_Name_kw (thn ((pe_var (pos := p1) (i := i) hN hv hd hcd).run pinsZ sZ σZ HZ (fun v H1 => v = .ref f ∧ H1 = HZ) IZ ⟨.ref f, at_, rfl, rfl⟩) fun u s1 ⟨v, H1, I1, r1, ev, eH⟩ => ?_)
  subst ev eH
  cases (show u = Value.ref f from r1)
  have of1 := I1.base.keep f _ hf hfn hfr (fun z => nomatch (show f ∈ ([] : List Addr) from z))
  refine PySem.W.callWith_F0 ⟨_, _, _, _, of1⟩ ?_
  have un : Un (frs X.stack) [] H H1 s.heap s1.heap := I1.base
  obtain ⟨⟨oc, vs, t, hoc, hdc, hvc⟩, _, _⟩ := I1.hok c' _ hc
  have run : codeAny (model X.prog X.w) (X.A.deeper (envOfC qg sg s.heap.objs.size g cdg)) (.call (.ref f) ⟨[], []⟩) (CR (L2.CX X.prog X.w) (envOfC qg sg s.heap.objs.size g cdg :: X.stack) X.prog X.w H1 s1 Q (WE W σZ)) s1 := by
    refine PySem.W.kla_callFunE hr.depth of1 rfl L.co L.gen rfl ⟨c', oc, vs, t, rfl, hoc, hdc, hvc⟩ ?_
    rw [hbind]
    refine wpAny_pure (wpAny_newFunctionEnv (fun y hy => (L.own y hy).2) (fun y hy => absurd hy (by simp)) (fun h₁ hns hsb => ⟨I1.nolimit.fresh _ hsb, ?_⟩) L.kind)
    have kp : ∀ b o, s1.heap.get? b = some o → h₁.get? b = some o := fun b o z => hsb.extBut b o (Nat.ne_of_lt (Heap.lt_size z)) (Heap.get?_push_of_some _ z)
    have J := lam_start2 (tk := s1.toks + ([] : List (Str × Value)).length) (E := WE W σZ) (f := f) (c' := c') I L I1.env0 hr.hd un hns kp
    refine PySem.W.kla_codeExpr (wpAny_mono ((hbody _ _ s1 H1 (WE W σZ) (hr.deeper _)).run [] _ _ H1 Q J ht) (fun v s' hq => ?_) fun e s' hq => hq)
    obtain ⟨w', H', J', rv, q⟩ := hq
    exact ⟨w', H', J'.os, J'.bare, J'.base, J'.hok, rv, q⟩
  refine wpAny_call (codeAny_mono run fun r s' hq => ?_)
  rcases r with e | fl
  · exact passAt tk σZ pinsZ H1 s1 e s' I1 hq
  cases fl with
  | ret u => exact I1.after hq
  | next => exact hq.elim
  | brk => exact hq.elim
  | cont => exact hq.elim
end
/-- the def that calls what it got, its clauses free to look at the slots -/
def GivesS (n : Nat) (X : Cx) (Ng : List Str) (x : Str) (sg : Scope) (g : Addr) (cdg : Value) (bg : List Stmt) (a : Str) (q : Str) (TT : (XK → Hp → VK → Prop) → Hp → VK → Prop) : Prop :=
  ∀ (f c' : Addr) (s : Shared) (H : Hp) (Q : VK) (tl : XK → Hp → VK → Prop),
    (∀ (W : WX) (pn : List (Addr × Obj)) (xe : Value → Shared → Prop) (p1 p2 : Pos), Takes ((cxOf CX0 X.prog X.w X.K X.mg X.base Ng x sg g cdg X.A X.stack s H E0).tr pn xe) W →
      PE ((cxOf CX0 X.prog X.w X.K X.mg X.base Ng x sg g cdg X.A X.stack s H E0).tr pn xe) (.Call (.Name a p1) [] [] p2) (tDeed 0 f c' q W tl)) →
    Room n X.A → H c' = some (CodeO c' q) → TT tl H Q →
    ∃ t, PSs (cxOf CX0 X.prog X.w X.K X.mg X.base Ng x sg g cdg X.A X.stack s H E0).nox bg t ∧ t { nx := fun _ H' => Q .non H', rt := Q } (L2.start Ng [.ref f]) H
section
variable {X : Cx}
/-- x(lambda: body) -/
theorem pe_lamS {T : List (Addr × Str)} {TT : (XK → Hp → VK → Prop) → Hp → VK → Prop} {x a : Str} {g c P : Addr} {k n : Nat} {pg : Arguments} {bg : List Stmt} {sg : Scope} {dV kV doc pm cdv ct oc : Value} {an od : Option Addr} {osl : Array (Option Value)} {Ng : List Str}
    {params : Arguments} {body : Expr} {scope : Scope} {t : XK → TE} {p lpos pos : Pos} (hg : Gl X x) (hm : X.mg x = some (.ref g)) (hk : PySem.W.keepIn X.K (.ref g) = true)
    (lk : X.K.lookup g = some ⟨oc, od, .func (PySem.W.fnOf x x pg bg sg dV kV doc pm an cdv ct), osl⟩) (hcg : PySem.W.codeIn X.K cdv x = true) (hb : Binds X.K (PySem.W.fnOf x x pg bg sg dV kV doc pm an cdv ct) [a] []) (Sg : FnScope Ng [a] sg) (hNg : Ng[0]? = some a) (hva : Vis sg a)
    (hG : GivesS n X Ng x sg g cdv bg a (X.env.qual ++ "<lambda>") TT)
    (TB : TabB X.base X.mg c P) (hcode : X.env.code = .ref c) (hmT : (P, X.env.qual ++ "<lambda>") ∈ T) (hu : ∀ p ∈ T, p.1 = P → p.2 = X.env.qual ++ "<lambda>") (hr : Room (k + 2) X.A) (hn : n ≤ k + 2) (L : LamS X.env.scope scope) (hdef : defaultsOf params X.env = ([], []))
    (hbind : ∀ (q : Str) (cl : List (Str × Addr)) (pm cv ctv : Value), bindArgs (PySem.W.kla_fn "<lambda>" q params body scope cl pm cv ctv) ⟨[], []⟩ = pure [])
    (hbody : ∀ (A : Around) (outer : List Env) (s : Shared) (H : Hp) (E : XK) (f c' : Addr), Room k (A.deeper (lamEnv X scope s.heap.objs.size f c')) → PE (lamCx X A outer s H E scope f c') body (t E))
    (hdb : (x == ("__debug__" : Str)) = false) (hd : (a == ("__debug__" : Str)) = false) (hcd : (a == ("__classdict__" : Str)) = false) :
    PE X (.Call (.Name x p) [.Lambda params body scope lpos] [] pos) (tLam T TT t) := by
  refine ⟨fun pins s σ H Q I hh => wpAny_Call_Name_kw (ld_glob I hg hm ?_ hdb)⟩
  obtain ⟨hT, h⟩ := hh
  refine PySem.W.callWith_K (h₀ := X.base) I.ok.mod.kin hk ?_ (by rfl) (by rfl)
  show wpAny _ _ (spliced ((false, eval (.Lambda params body scope lpos) X.env) :: backTo pos (starEach [] X.env))) _ _ s
  refine Calls.spliced_cons (lam_make2 I TB hcode hmT hu hT hdef (L.has I.ok) fun f c' pm' ctv H1 s' I1 eN T1 hf hfn hfr hco => Calls.spliced_nil ⟨I1.kIn, ?_⟩)
  have rc : codeAny (model X.prog X.w) X.A (.call (.ref g) ⟨[.ref f], []⟩) (CR CX0 X.stack X.prog X.w H1 s' Q E0) s' := by
    refine run_ofS (N := Ng) (ps := [a]) (us := [.ref f]) (vs := [.ref f]) lk hcg Sg hr I1.env0 (hb s' [.ref f] I1.kIn rfl) (.cons rfl .nil) rfl fun hr' => ?_
    obtain ⟨t', ht', hq'⟩ := hG f c' s' H1 Q (fun E H' Q' => t E σ H' Q') (fun W pn xe p1 p2 tk => pe_deed (i := 0) I1 L hf hfn hfr (hbind _ _ _ _ _) tk hr' (fun A outer s H E hr2 => hbody A outer s H E f c' hr2) hNg hva hd hcd) (hr.mono hn) hco (h H1 eN T1)
    exact ⟨t', ht'.nox, hq'⟩
  refine wpAny_call (codeAny_mono rc fun r s2 hq => ?_)
  rcases r with e | fl
  · exact (show False from hq).elim
  cases fl with
  | ret u => exact I1.after hq
  | next => exact hq.elim
  | brk => exact hq.elim
  | cont => exact hq.elim
end
/-- what the maker of a lambda knows of the def that gets it -/
def CalL (P : Program) (w : World) (K : PySem.W.Frag) (mg : Str → Option Value) (base : Heap) (n : Nat) (x a : Str) (TT : (XK → Hp → VK → Prop) → Hp → VK → Prop) : Prop :=
  ∃ (g : Addr) (oc : Value) (od : Option Addr) (pg : Arguments) (bg : List Stmt) (sg : Scope) (dV kV doc pm cdv ct : Value) (an : Option Addr) (osl : Array (Option Value)) (Ng : List Str),
    mg x = some (.ref g) ∧ PySem.W.keepIn K (.ref g) = true ∧ K.lookup g = some ⟨oc, od, .func (PySem.W.fnOf x x pg bg sg dV kV doc pm an cdv ct), osl⟩ ∧ PySem.W.codeIn K cdv x = true ∧ Binds K (PySem.W.fnOf x x pg bg sg dV kV doc pm an cdv ct) [a] [] ∧ FnScope Ng [a] sg ∧ Ng[0]? = some a ∧ Vis sg a ∧
    ∀ (X : Cx) (q : Str), X.prog = P → X.w = w → X.K = K → X.mg = mg → X.base = base → GivesS n X Ng x sg g cdv bg a q TT
section
variable {X : Cx} {n j : Nat} {x a : Str} {T : List (Addr × Str)} {TT : (XK → Hp → VK → Prop) → Hp → VK → Prop} {c P : Addr} {params : Arguments} {body : Expr} {scope : Scope} {t : XK → TE} {p lpos pos : Pos}
theorem pe_lam (cl : CalL X.prog X.w X.K X.mg X.base n x a TT) (hg : Gl X x) (TB : TabB X.base X.mg c P) (hcode : X.env.code = .ref c) (hmT : (P, X.env.qual ++ "<lambda>") ∈ T) (hu : ∀ p ∈ T, p.1 = P → p.2 = X.env.qual ++ "<lambda>") (hr : Room j X.A) (hn : n ≤ j) (hj : 2 ≤ j)
    (L : LamS X.env.scope scope) (hdef : defaultsOf params X.env = ([], [])) (hbind : ∀ (q : Str) (cl : List (Str × Addr)) (pm cv ctv : Value), bindArgs (PySem.W.kla_fn "<lambda>" q params body scope cl pm cv ctv) ⟨[], []⟩ = pure [])
    (hbody : ∀ (A : Around) (outer : List Env) (s : Shared) (H : Hp) (E : XK) (f c' : Addr), Room (j - 2) (A.deeper (lamEnv X scope s.heap.objs.size f c')) → PE (lamCx X A outer s H E scope f c') body (t E))
    (hdb : (x == ("__debug__" : Str)) = false := by decide) (hd : (a == ("__debug__" : Str)) = false := by decide) (hcd : (a == ("__classdict__" : Str)) = false := by decide) :
    PE X (.Call (.Name x p) [.Lambda params body scope lpos] [] pos) (tLam T TT t) := by
  obtain ⟨g, oc, od, pg, bg, sg, dV, kV, doc, pm, cdv, ct, an, osl, Ng, hm, kp, lk, hcg, hb, Sg, hN, hv, hG⟩ := cl
  have hj2 : j - 2 + 2 = j := by omega
  exact pe_lamS (k := j - 2) hg hm kp lk hcg hb Sg hN hv (hG X _ rfl rfl rfl rfl rfl) TB hcode hmT hu (by rw [hj2]; exact hr) (by omega) L hdef hbind hbody hdb hd hcd
end
end UL
set_option Elab.async false
set_option linter.all false
set_option maxRecDepth 100000
set_option maxHeartbeats 4000000
/-! ### a tuple times a count: once is the tuple itself -/
namespace UL
open PySem PySem.Spec PyProof.Rows L2
theorem tuple_mul1 (l : Addr) (items : Array Value) (n : Nat) (sl : Array (Option Value)) (dd : Option Addr) (u : Tok) :
    Meets (Builtin.«tuple.__mul__» ⟨[.ref l, .int 1 u], []⟩) (fun _ R s => s.heap.get? l = some { cls := .type "tuple", dict := dd, data := .seq items n, slots := sl } ∧ R (.ok (.ret (Value.ref l))) s) :=
  .of_wp fun prog w A R s h => by
    obtain ⟨hp, g, d, tk, os⟩ := s
    obtain ⟨hl, h⟩ := h
    have f1 := AutoSeq1.idx_int
    wp_walk using wpAny_loadPart' hl
    repeat (first
      | (refine wpAny_ite_false (decide_eq_false (by decide)) ?_; wp_walk using wpAny_loadPart' hl)
      | (refine wpAny_ite_true (decide_eq_true (by simp)) ?_; wp_walk using wpAny_loadPart' hl))
    exact ⟨_, rfl, h⟩
theorem tuple_mul0 (l : Addr) (items : Array Value) (n : Nat) (dd : Option Addr) (sl : Array (Option Value)) (u : Tok) (hi : items.isEmpty = false) :
    Meets (Builtin.«tuple.__mul__» ⟨[.ref l, .int 0 u], []⟩) (fun _ R s => s.heap.get? l = some { cls := .type "tuple", dict := dd, data := .seq items n, slots := sl } ∧
      R (.ok (.ret (Value.ref s.heap.objs.size))) { s with heap := s.heap.push { cls := Value.type "tuple", data := Data.seq #[] }, toks := s.toks }) :=
  .of_wp fun prog w A R s h => by
    obtain ⟨hp, g, d, tk, os⟩ := s
    obtain ⟨hl, h⟩ := h
    have f1 := AutoSeq1.idx_int
    wp_walk using wpAny_loadPart' hl
    repeat (first
      | (refine wpAny_ite_false (decide_eq_false (by simp [hi])) ?_; wp_walk using wpAny_loadPart' hl)
      | (refine wpAny_ite_true (decide_eq_true (by simp)) ?_; wp_walk using wpAny_loadPart' hl))
    exact ⟨_, rfl, h⟩
structure RepOk (n : Nat) (k : Int) : Prop where
  lo : 0 ≤ k
  hi : k ≤ 100000
  mul : (n : Int) * k ≤ 1000000
/-- t * k of a tuple that is not empty, k at least 0 -/
def rRepS (K : PySem.W.Frag) : R2 := fun x y H Q => ∃ l k xs, x = .ref l ∧ y = .int k ∧ SqT K H l xs ∧ xs ≠ [] ∧ RepOk xs.length k ∧
  ∀ p H', L2.Same H H' → SqT K H' p (List.replicate k.toNat xs).flatten → Q (.ref p) H'
theorem op_repS {X : Cx} : OpR X (binaryOp .Mult) (rRepS X.K) := by
  intro pins s σ H x y v u Q I rx ry h
  obtain ⟨l, k, xs, rfl, rfl, hT, hne, ⟨h1, h2, hz⟩, q⟩ := h
  cases rx
  obtain ⟨t, rfl⟩ := ry
  obtain ⟨its, r, ⟨⟨cls, dd, data, sl⟩, ho, hc, n, hd⟩, hs⟩ := I.tuple hT
  simp only at hc hd
  subst hc hd
  have hle : its.length = xs.length := r.length.symm
  have hn : its ≠ [] := fun e => hne (by
    rw [e] at hle
    exact List.eq_nil_of_length_eq_zero hle.symm)
  have hi : its.toArray.isEmpty = false := by
    cases its with
    | nil => exact absurd rfl hn
    | cons a b => rfl
  have hsz0 : its.toArray.size = xs.length := by rw [List.size_toArray, hle]
  have flen0 : k.toNat * xs.length ≤ 1000000 := by
    have e : ((k.toNat * xs.length : Nat) : Int) = (xs.length : Int) * k := by rw [Int.natCast_mul, Int.toNat_of_nonneg h1, Int.mul_comm]
    omega
  have flen : (List.replicate k.toNat its).flatten.length ≤ sizeLine := by
    rw [PyProof.Rows.lm_len_rep_flat, hle, sizeLine_eq]
    omega
  have flen2 : (List.replicate k.toNat xs).flatten.length ≤ sizeLine := by
    rw [PyProof.Rows.lm_len_rep_flat, sizeLine_eq]
    omega
  refine wpAny_binaryOp_repeat_ref (T := "tuple") (U := "int") (by decide) ⟨_, ho, rfl⟩ (fun s' => typeIs_int s' k t) noFill_tuple_mul F.fills_int_mul F.slot_int_rmul repeat_tuple F.slot_int_index.lookup
    (call_meets F.slot_int_rmul (typeIs_int s k t) F.entry_int_rmul (F.args_int_rmul_2 _ _) (int_rmul_tuple k t l its.toArray n dd sl)
      ⟨ho, rfl, ⟨_, ho, rfl⟩, ?_⟩)
  by_cases e1 : k = 1
  · subst e1
    refine call_meets F.slot_tuple_mul ⟨_, ho, rfl⟩ F.entry_tuple_mul (F.args_tuple_mul_2 _ _) (tuple_mul1 l its.toArray n sl dd t) ⟨ho, ?_⟩
    exact ⟨.ref l, H, I, rfl, q l H (L2.Same.refl _) (by simpa using hT)⟩
  by_cases e0 : k = 0
  · subst e0
    refine call_meets F.slot_tuple_mul ⟨_, ho, rfl⟩ F.entry_tuple_mul (F.args_tuple_mul_2 _ _) (tuple_mul0 l its.toArray n dd sl t hi) ⟨ho, ?_⟩
    refine ⟨.ref s.heap.objs.size, _, I.laid (t' := s.toks) (o := .tup []) (fun b ob q => Heap.get?_push_of_some _ q) (Nat.le_refl _) ?_, rfl, ?_⟩
    · exact ⟨by simp, [], .nil, IsTup.new _ _⟩
    · exact q _ _ (same_new (I.hok.fresh (Nat.le_refl _))) (SqT.of upd_same)
  have c0 : (decide (k < -(2 ^ 63)) || decide (k ≥ 2 ^ 63)) = false := by
    rw [decide_eq_false (by omega), decide_eq_false (by omega)] <;> rfl
  have c1 : (its.toArray.isEmpty || k == 1) = false := by
    rw [hi, Bool.false_or]
    exact beq_eq_false_iff_ne.mpr (by omega)
  have c2 : (decide (k ≤ 0) || its.toArray.isEmpty) = false := by
    rw [hi, Bool.or_false]
    exact decide_eq_false (by omega)
  have c4 : Builtin.Tuple.tupleTooMany (((its.toArray.size : Nat) : Int) * k) = false := by
    unfold Builtin.Tuple.tupleTooMany
    rw [sizeLine_eq, hsz0]
    exact decide_eq_false (by omega)
  refine call_meets F.slot_tuple_mul ⟨_, ho, rfl⟩ F.entry_tuple_mul (F.args_tuple_mul_2 _ _) (tuple_mulW l its.toArray n dd sl k t c0 c1 c2 (by rw [hsz0]; omega) c4 (by rw [size_rep, List.size_toArray]; exact flen)) ⟨ho, ?_⟩
  rw [size_rep]
  refine ⟨.ref s.heap.objs.size, _, I.laid (t' := s.toks) (o := .tup (List.replicate k.toNat xs).flatten) (fun b ob q => Heap.get?_push_of_some _ q) (Nat.le_refl _) ?_, rfl, q _ _ (same_new (I.hok.fresh (Nat.le_refl _))) (SqT.of upd_same)⟩
  exact ⟨flen2, _, r.rep k.toNat, IsTup.new _ _⟩
end UL
namespace UL
open PySem PySem.Spec PyProof.Rows L2
/-- t[lo:hi] of a tuple, the whole or not -/
def rSlS (K : PySem.W.Frag) : V → Option Int → Option Int → Hp → VK → Prop := fun x lo hi H Q => ∃ a xs, x = .ref a ∧ SqT K H a xs ∧ ∀ p H', L2.Same H H' → SqT K H' p (cutV xs lo hi) → Q (.ref p) H'
theorem sl_tupS {X : Cx} : SlR X (rSlS X.K) := by
  intro pins s σ H x v vl vu lo hi sl Q I rx hs pl pu h
  obtain ⟨a, xs, rfl, hx, q⟩ := h
  refine sl_tupA pins s σ H _ v vl vu lo hi sl Q I rx hs pl pu ⟨a, xs, rfl, hx, fun hw => ?_, fun _ p hp => q p _ (same_new hp) (SqT.of upd_same)⟩
  refine q a H (L2.Same.refl _) ?_
  have e : cutV xs lo hi = xs := by
    unfold cutV
    rw [hw.1, hw.2]
    simp
  rw [e]
  exact hx
/-- t + u of tuples, any -/
def rCatF (K : PySem.W.Frag) : R2 := fun x y H Q => ∃ a b xs ys, x = .ref a ∧ y = .ref b ∧ SqT K H a xs ∧ SqT K H b ys ∧ xs.length + ys.length ≤ sizeLine ∧ ∀ p H', L2.Same H H' → SqT K H' p (xs ++ ys) → Q (.ref p) H'
theorem op_catF {X : Cx} : OpR X (binaryOp .Add) (rCatF X.K) := by
  intro pins s σ H x y v u Q I rx ry h
  obtain ⟨a, b, xs, ys, rfl, rfl, ha, hb, hz, q⟩ := h
  refine op_catA pins s σ H _ _ v u Q I rx ry ⟨a, b, xs, ys, rfl, rfl, ha, hb, hz, fun e => ?_, fun _ e => ?_, fun _ _ p hp => ?_⟩
  · refine q b H (L2.Same.refl _) ?_
    rw [e]
    exact hb
  · refine q a H (L2.Same.refl _) ?_
    rw [e, List.append_nil]
    exact ha
  · exact q p _ (same_new hp) (SqT.of upd_same)
/-! ### a tuple that is surely no more than a tuple -/
structure TupO (o : Obj) : Prop where
  cls : o.cls = .type "tuple"
  dict : o.dict = Option.none
def tBMF (T : String) (r : V → List V → Hp → VK → Prop) (to : TE) (t : TA) : TE := fun σ H Q => to σ H fun x H1 => (∃ p o u, x = .ref p ∧ H1 p = some (.frz o u) ∧ TupO o) ∧ t σ H1 fun xs H2 => r x xs H2 Q
theorem pe_bmF {X : Cx} {o e : Expr} {es : List Expr} {to : TE} {t : TA} {name : Str} {apos cpos : Pos} {id : String} {r : V → List V → Hp → VK → Prop}
    (pa : PlainAttrs "tuple") (slot : Slot "tuple" name id) (hty : typeOf (.builtin id) = pure (.type "method_descriptor")) (hm : MtR X id r) (ho : PE X o to) (ha : PA X (e :: es) t)
    (hbase : attributeBase o name X.env (eval o X.env) = eval o X.env := by rfl)
    (hfew : ((backTo cpos (starEach (e :: es) X.env)).all (fun x => !x.1) && (backToKw cpos (keywordEach [] X.env)).all (fun x => x.1.isSome)
      && decide ((e :: es).length + ([] : List Keyword).length + (if ([] : List Keyword).isEmpty then 0 else 1) < 30)) = true := by rfl)
    (hline : (apos.endLine == cpos.line) = true := by rfl) (hs : starEach (e :: es) X.env = (false, eval e X.env) :: starEach es X.env := by rfl) (hplain : (backTo cpos (starEach es X.env)).any (·.1) = false := by rfl) :
    PE X (.Call (.Attribute o name apos) (e :: es) [] cpos) (tBMF "tuple" r to t) := by
  refine ⟨fun pins s σ H Q I h => ?_⟩
  refine wpAny_Call_method_late hbase hfew hline rfl (thn (ho.run pins s σ H _ I h) fun v s1 ⟨x, H1, I1, r1, ⟨p, ob, ho, ex, hp, hto⟩, q1⟩ => ?_)
  subst ex
  cases (show v = Value.ref p from r1)
  have hg : s1.heap.get? p = some ob := (I1.hok p _ hp).1
  refine ⟨"tuple", id, pa, slot, hty, ⟨ob, hg, hto.cls⟩, fun a e => (by cases e; exact ⟨ob, hg, hto.dict⟩), ?_⟩
  have hA := ha.run cpos pins s1 σ H1 _ I1 q1
  rw [hs] at hA ⊢
  refine Calls.callWith_builtin (by show (false || (backTo cpos (starEach es X.env)).any (·.1)) = false; rw [hplain] <;> rfl) (Calls.evalArgs_plain ?_)
  exact thn hA fun us s2 ⟨vs, H2, I2, r2, q2⟩ => hm pins s2 σ H2 (.ref p) vs (.ref p) us Q I2 rfl r2 q2
section
variable {CX : CXT} {P : Program} {w : World} {K : PySem.W.Frag} {mg : Str → Option Value} {base : Heap} {k : Nat} {f : Addr} {name qual : Str} {params : Arguments} {body : List Stmt} {scope : Scope} {dV kV doc pm cdv ct oc : Value} {an od : Option Addr}
  {osl : Array (Option Value)} {N ps : List Str} {sp : Sp}
/-- def f(a, .., *v): what is left over is a new tuple, and no more -/
theorem fn_starF {pv : Str} (lk : K.lookup f = some ⟨oc, od, .func (PySem.W.fnOf name qual params body scope dV kV doc pm an cdv ct), osl⟩) (hcd : PySem.W.codeIn K cdv qual = true) (S : FnScope N (ps ++ [pv]) scope) (hCX : StX.CXUp CX)
    (hb : ∀ us rest : List Value, us.length = ps.length → bindArgs (PySem.W.fnOf name qual params body scope dV kV doc pm an cdv ct) ⟨us ++ rest, []⟩ = (newTuple rest >>= fun t => pure (ps.zip us ++ [(pv, t)])))
    (hbody : ∀ (A : Around) (outer : List Env) (s : Shared) (H : Hp) (vs : List V) (Q : VK) (E : XK), Room k (A.deeper (envOfC qual scope s.heap.objs.size f cdv)) → sp vs H Q E →
      ∃ t, PSs (cxOf CX P w K mg base N qual scope f cdv A outer s H E) body t ∧ t { nx := fun _ H' => Q .non H', rt := Q } (start N vs) H) :
    FnR P w K mg base CX (k + 1) f (fun vs H Q E => ∃ ws rest, vs = ws ++ rest ∧ ws.length = ps.length ∧ rest.length ≤ sizeLine ∧ ∀ p o, H p = Option.none → TupO o → sp (ws ++ [V.ref p]) (upd H p (.frz o (.tup rest))) Q E) := by
  intro A outer s H us vs Q E hr e0 r hsp
  obtain ⟨ws, rest, ev, hl, hz, hq⟩ := hsp
  subst ev
  obtain ⟨u1, u2, eu, r1, r2⟩ := StX.vals_split r
  subst eu
  have hn : H s.heap.objs.size = Option.none := e0.hok.fresh (Nat.le_refl _)
  have hl1 : u1.length = ps.length := by rw [← r1.length]; exact hl
  have hl2 : u2.length ≤ sizeLine := by rw [← r2.length]; exact hz
  refine StX.run_bnd lk hcd S hr e0 (G := fun xs H2 => ∃ p o, H p = Option.none ∧ TupO o ∧ xs = ws ++ [V.ref p] ∧ H2 = upd H p (.frz o (.tup rest))) (fun A' Ex Q' h => ?_) fun s2 H2 xs ⟨p, o, hp, ho, ex, eH⟩ hr' => ?_
  · rw [hb u1 u2 hl1]
    refine wpAny_bind (wpAny_newTuple (wpAny_pure ?_) hl2)
    have new : ObjOk P w (upd H s.heap.objs.size (.frz ({ cls := .type "tuple", data := .seq u2.toArray } : Obj) (.tup rest))) (s.heap.push ({ cls := .type "tuple", data := .seq u2.toArray } : Obj)) s.heap.objs.size (.frz ({ cls := .type "tuple", data := .seq u2.toArray } : Obj) (.tup rest)) :=
      ⟨Heap.get?_push_size _ rfl, hz, u2, r2, ⟨_, Heap.get?_push_size _ rfl, rfl, _, rfl⟩⟩
    have un := StX.un_laid (fs := frs outer) (s := s) (o := ({ cls := .type "tuple", data := .seq u2.toArray } : Obj)) (u := .frz ({ cls := .type "tuple", data := .seq u2.toArray } : Obj) (.tup rest)) hn
    have z := h _ _ (ws ++ [V.ref s.heap.objs.size]) (u1 ++ [Value.ref s.heap.objs.size]) (StX.env0_laid e0 new) un rfl (fun e s' => hCX outer s H _ _ E e s' un (fun b o q => Heap.get?_push_of_some _ q) rfl) (r1.append (.cons rfl .nil))
      (by rw [List.length_append, List.length_append, hl] <;> rfl) ⟨_, ({ cls := .type "tuple", data := .seq u2.toArray } : Obj), hn, ⟨rfl, rfl⟩, rfl, rfl⟩
    rw [List.zip_append hl1.symm] at z
    exact z
  · subst ex eH
    exact hbody A outer s2 _ _ Q E hr' (hq p o hp ho)
end
end UL
namespace UL
open PySem PySem.Spec PyProof.Rows L2
theorem SqT.frz {K : PySem.W.Frag} {H : Hp} {a : Addr} {o : Obj} {xs : List V} (h : H a = some (.frz o (.tup xs))) : SqT K H a xs := .inl (.inr ⟨o, h⟩)
theorem Keep.frz {H H' : Hp} {a : Addr} {o : Obj} {u : HO} (k : Keep H H') (h : H a = some (.frz o u)) : H' a = some (.frz o u) := k _ _ h fun xs z => by cases z
theorem sqT_same {K : PySem.W.Frag} {H H' : Hp} {a : Addr} {xs : List V} (h : SqT K H a xs) (s : L2.Same H H') : SqT K H' a xs := by
  rcases h with (h | ⟨o, h⟩) | h
  · exact .inl (.inl (s _ _ h))
  · exact .inl (.inr ⟨o, s _ _ h⟩)
  · exact .inr h
end UL
set_option Elab.async false
set_option linter.all false
set_option maxRecDepth 100000
set_option maxHeartbeats 4000000
/-! ### x[y] and y in x by a class's own defs -/
namespace UL
open PySem PySem.Spec PyProof.Rows L2
section
variable {X : Cx} {k j : Nat} {C : Addr} {sp : Sp} {a b : Expr} {ta tb : TE} {pos : Pos}
/-- x[y] by the def of x's class at C -/
def rIxO (C : Addr) (sp : Sp) (E : XK) : R2 := fun x y H Q => ∃ (a dx : Addr) (fs : List (Str × V)), x = .ref a ∧ H a = some (.ins C dx fs) ∧ sp [.ref a, y] H Q E
theorem pe_ixS (c : CalS X.prog X.w X.K X.mg X.base k C "__getitem__" sp) (hg : ∃ g, PySem.W.findIn X.K (.ref C) "__getitem__" = some (some (.ref g)) ∧ PySem.W.fnIn X.K g = true) (hr : Room j X.A) (hk : k + 1 ≤ j) (ha : PE X a ta) (hb : PE X b tb)
    (hsl : ∀ o i, subscripted b true o i = runValue (.builtin "lifetime.subscript" ⟨[o, i], []⟩)) : PE X (.Subscript a b pos) (tOp (rIxO C sp E0) ta tb) := by
  obtain ⟨f, F, h1, h2⟩ := c
  obtain ⟨g, g1, g2⟩ := hg
  have e : g = f := by
    rw [h1] at g1
    injection g1 with z
    injection z with z
    injection z with z
    exact z.symm
  subst e
  refine ⟨fun pins s σ H Q I h => ?_⟩
  refine Subscript_ (binT ha hb I h fun v u s2 x y H2 I2 rx ry q => ?_)
  obtain ⟨p, dx, fs, rfl, hp, q⟩ := q
  cases (show v = Value.ref p from rx)
  obtain ⟨mA, O, _⟩ := ins_get I2.hok hp
  obtain ⟨od, J, _⟩ := O.look
  obtain ⟨m, hF⟩ := I2.fr
  refine PySem.W.sub_K hF I2.ok.mod.kin J h1 g2 h2 (wpAny_mono (wpAny_call (SlX.run_at (us := [.ref p, u]) (ws := [.ref p, y]) F (hr.mono hk).in1 I2.env0.in1 pass0 I2 (.cons rfl (.cons ry .nil)) q)) (fun w s' z => ?_) fun _ _ e => e) (hsl _ _)
  exact z
end
end UL
set_option Elab.async false
set_option linter.all false
set_option maxRecDepth 100000
set_option maxHeartbeats 4000000
namespace UL
open PySem PySem.Spec PyProof.Rows L2
section
variable {X : Cx} {k j : Nat} {C : Addr} {sp : Sp} {x : Str} {e : Expr} {es : List Expr} {t : TA} {p pos : Pos} {E : XK}
/-- C(..) of a class whose making may raise -/
theorem pe_nRE (c : MakRE X.prog X.w X.K X.mg X.base k x C sp) (px : Passes (L2.CX X.prog X.w) X E) (hr : Room j X.A) (hk : k + 1 ≤ j) (hg : Gl X x) (ha : PA X (e :: es) t) (hdb : (x == ("__debug__" : Str)) = false := by decide)
    (he : starEach (e :: es) X.env = (false, eval e X.env) :: starEach es X.env := by rfl) (hpl : (backTo pos (starEach es X.env)).any (·.1) = false := by rfl) : PE X (.Call (.Name x p) (e :: es) [] pos) (StX.tMakeR C sp E t) := by
  obtain ⟨f, F, M, g⟩ := c
  exact StX.pe_makeR M F (hr.mono hk) hg g px ha hdb he hpl
end
end UL
set_option Elab.async false
set_option linter.all false
set_option maxRecDepth 100000
set_option maxHeartbeats 4000000
/-! ### data with dicts: what repr says of it -/
namespace UL
open PySem PySem.Spec PyProof.Rows L2
def keyD : Key → PyData
  | .inl i => .int i
  | .inr x => .str x
def flatD : V → PyData
  | .non => .none
  | .bl b => .bool b
  | .int i => .int i
  | .str x => .str x
  | _ => .none
/-- what stands in a list that is told: data without dicts, or a dict of plain values -/
inductive Itm (K : PySem.W.Frag) (H : Hp) : V → PyData → Prop
  | dp {v : V} {d : PyData} (h : Dp K H v d) (n : d.hasDict = false) : Itm K H v d
  | dct {a : Addr} {kvs : List (Key × V)} (h : H a = some (.dK kvs)) (q : ∀ p ∈ kvs, flatV p.2 = true) : Itm K H (.ref a) (.dict (kvs.map fun p => (keyD p.1, flatD p.2)))
inductive ItmAll (K : PySem.W.Frag) (H : Hp) : List V → List PyData → Prop
  | nil : ItmAll K H [] []
  | cons {v : V} {vs : List V} {d : PyData} {ds : List PyData} (h : Itm K H v d) (q : ItmAll K H vs ds) : ItmAll K H (v :: vs) (d :: ds)
theorem Itm.flat {K : PySem.W.Frag} {H : Hp} : ∀ {v : V}, flatV v = true → Itm K H v (flatD v)
  | .non, _ => .dp .non rfl
  | .bl b, _ => .dp (.bl b) rfl
  | .int i, _ => .dp (.int i) rfl
  | .str x, _ => .dp (.str x) rfl
  | .ref _, h => by cases h
theorem flat_reads {h : Heap} {v : V} {u : Value} (f : flatV v = true) (r : RelV v u) : Reads h u (flatD v) [] := by
  cases v with
  | non =>
    cases (show u = Value.none from r)
    exact .none
  | bl b =>
    cases (show u = Value.bool b from r)
    exact .bool b
  | int i =>
    obtain ⟨t, rfl⟩ := r
    exact .int i t
  | str x =>
    obtain ⟨t, rfl⟩ := r
    exact .str x t
  | _ => cases f
theorem dict_reads {prog : Program} {w : World} {h : Heap} : ∀ {es : List DictEntry} {vs : List (Key × Value)} {kvs : List (Key × V)}, Pairs (mixKind prog w) es vs → KV kvs vs → (∀ p ∈ kvs, flatV p.2 = true) →
    ReadsAll h (es.map (·.key)) ((kvs.map fun p => (keyD p.1, flatD p.2)).map (·.1)) [] ∧ ReadsAll h (es.map (·.val)) ((kvs.map fun p => (keyD p.1, flatD p.2)).map (·.2)) []
  | _, _, _, .nil, .nil, _ => ⟨.nil, .nil⟩
  | _, _, _, .cons (e := en) hk hv rest, .cons (a := p) hp hq, hf => by
    obtain ⟨i1, i2⟩ := dict_reads (h := h) rest hq fun p hp => hf p (List.mem_cons_of_mem _ hp)
    obtain ⟨e1, e2⟩ := hp
    have f1 := hf p List.mem_cons_self
    have key : Reads h en.key (keyD p.1) [] := by
      rw [e1]
      rcases keyIs_shape hk with ⟨i, t, ek, ev⟩ | ⟨x, t, ek, ev⟩
      · rw [ek, ev]
        exact .int i t
      · rw [ek, ev]
        exact .str x t
    have val : Reads h en.val (flatD p.2) [] := by
      rw [hv]
      exact flat_reads f1 e2
    exact ⟨.cons (as := []) (bs := []) key i1, .cons (as := []) (bs := []) val i2⟩
section
variable {X : Cx} {pins : List (Addr × Obj)} {σ : L2.St} {H : Hp} {s : Shared}
theorem Itm.reads (I : Inv X pins σ H s) {v : V} {d : PyData} {u : Value} (i : Itm X.K H v d) (r : RelV v u) : ∃ as, Reads s.heap u d as ∧ (d.hasDict = true → sysModules ∉ as) := by
  cases i with
  | dp h n =>
    obtain ⟨as, rd⟩ := Dp.reads I d v u h r
    exact ⟨as, rd, PyData.noDict_hsm n⟩
  | @dct a kvs h q =>
    cases (show u = Value.ref a from r)
    obtain ⟨hz, hd, vs, rel, o, es, ep, ho, ⟨hc, _, _⟩, hdt, _, hp, _⟩ := dk_of I.hok h
    obtain ⟨r1, r2⟩ := dict_reads (h := s.heap) hp rel q
    refine ⟨a :: [] ++ [], .dict ho hc hdt r1 r2, fun _ z => ?_⟩
    have z' : sysModules = a := by simpa using z
    rw [z'] at hd
    simp at hd
theorem items_reprs (I : Inv X pins σ H s) : ∀ {vs : List V} {ds : List PyData} {us : List Value}, ItmAll X.K H vs ds → Vals vs us → PyData.showableAll ds = true → (∀ t ∈ PyData.shownAll ds, t.length ≤ sizeLine) →
    ∃ as bs, ReadsAll s.heap us ds as ∧ ReadAtMost s.heap (PyData.depthAll ds) bs ∧ ReprAllK X.prog X.w bs s.heap (PyData.depthAll ds) us (PyData.shownAll ds)
  | _, _, _, .nil, .nil, _, _ => ⟨[], [], .nil, fun _ h => (nomatch h), by simp only [PyData.shownAll]; exact .nil⟩
  | _, d :: ds, _, .cons h q, .cons r rr, hs, hz => by
    simp only [PyData.showableAll, Bool.and_eq_true] at hs
    simp only [PyData.shownAll, List.mem_cons] at hz
    obtain ⟨as, rd, sm⟩ := h.reads I r
    obtain ⟨b1, m1, k1⟩ := ReprK.of_reads (prog := X.prog) (w := X.w) rd hs.1 sm (hz _ (.inl rfl))
    obtain ⟨as2, b2, rd2, m2, k2⟩ := items_reprs I q rr hs.2 fun t ht => hz t (.inr ht)
    have e1 : d.depth ≤ PyData.depthAll (d :: ds) := by simp only [PyData.depthAll]; omega
    have e2 : PyData.depthAll ds ≤ PyData.depthAll (d :: ds) := by simp only [PyData.depthAll]; omega
    refine ⟨as ++ as2, b1 ++ b2, .cons rd rd2, (m1.mono e1).append (m2.mono e2), ?_⟩
    have w1 : ReprAllK X.prog X.w b1 s.heap d.depth [_] [d.shown] := .cons k1 .nil
    have w1' := ReprAllK.more_le (as' := b1 ++ b2) (fun b hb => List.mem_append_left _ hb) e1 w1
    simp only [PyData.shownAll]
    cases w1' with
    | cons k1' _ => exact .cons k1' (ReprAllK.more_le (fun b hb => List.mem_append_right _ hb) e2 k2)
end
/-- repr of a list that was told -/
def rReprT (K : PySem.W.Frag) : List V → Hp → VK → Prop := fun xs H Q => ∃ (a : Addr) (vs : List V) (ds : List PyData), xs = [.ref a] ∧ H a = some (.lst vs) ∧ ItmAll K H vs ds ∧ PyData.showableAll ds = true ∧ PyData.depthAll ds ≤ 40 ∧ (PyData.list ds).shown.length ≤ sizeLine ∧ Q (.str (PyData.list ds).shown) H
section
variable {X : Cx}
theorem call_reprT (hgd : X.A.guards = some []) (hu : X.A.units + 64 < cLine) : CallR X (.builtin "repr") (rReprT X.K) := by
  intro pins s σ H xs us Q I r h
  obtain ⟨a, vs, ds, rfl, ha, hi, hs, hdp, hz, q⟩ := h
  obtain ⟨u, rfl, ru⟩ := vals1 r
  cases (show u = Value.ref a from ru)
  obtain ⟨hl, its, n, rv, ho⟩ : vs.length ≤ sizeLine ∧ ∃ (its : List Value) (n : Nat), Vals vs its ∧ s.heap.get? a = some { cls := .type "list", data := .seq its.toArray n } := I.hok a _ ha
  have hz2 : (listText (PyData.shownAll ds)).length ≤ sizeLine := by simpa only [PyData.shown] using hz
  obtain ⟨as, bs, rd, hm, hk⟩ := items_reprs I hi rv hs fun t ht => Nat.le_trans (listText_mem_le ht) hz2
  have fin : ∀ h' t tk, (∀ b o, s.heap.get? b = some o → h'.get? b = some o) → EP X pins σ Q (.str (PyData.list ds).shown t) { s with heap := h', toks := tk } := fun h' t tk kp => ⟨.str (PyData.list ds).shown, H, I.kept kp, ⟨t, rfl⟩, q⟩
  have whole : Reads s.heap (.ref a) (.list ds) (a :: as) := .list ho rfl rfl (by simpa using rd)
  have na : a ∉ bs := not_mem_of_deeper whole (by simp only [PyData.depth]; omega) hm
  refine call_repr_slot (by omega) ⟨_, ho, rfl⟩ F.slot_list_repr.toG ?_
  cases rv with
  | nil =>
    cases hi
    simp only [PyData.shown, PyData.shownAll, listText_nil] at fin
    exact call_list_repr_empty ⟨_, ho, rfl⟩ ho rfl ⟨_, _, rfl, fin s.heap _ _ fun _ _ z => z⟩
  | cons r1 r2 =>
    simp only [PyData.shown] at fin
    exact call_list_reprK ho rfl rfl na (by simpa using hk.length_eq) (fun i y e => hk.item i y (by simpa using e)) hgd (fun b _ => Clear.nil b) (by show X.A.units + 1 + (PyData.depthAll ds + 1) < cLine; omega) (fun _ _ z => z) (fun h' t tk kp => ⟨_, _, rfl, fin h' t tk kp⟩) hz2
end
/-! data stays -/
mutual
theorem dp_ext {K : PySem.W.Frag} {H H' : Hp} (s : ∀ b o, H b = some o → (∀ ps, o ≠ .tbl ps) → H' b = some o) : ∀ {v : V} {d : PyData}, Dp K H v d → Dp K H' v d
  | _, _, .non => .non
  | _, _, .bl b => .bl b
  | _, _, .int i => .int i
  | _, _, .str x => .str x
  | _, _, .lst h q => .lst (by
      rcases h with (h | ⟨o, h⟩) | h
      · exact .inl (.inl (s _ _ h (fun _ z => by cases z)))
      · exact .inl (.inr ⟨o, s _ _ h (fun _ z => by cases z)⟩)
      · exact .inr h) (dp_extA s q)
  | _, _, .tup h q => .tup (by
      rcases h with (h | ⟨o, h⟩) | h
      · exact .inl (.inl (s _ _ h (fun _ z => by cases z)))
      · exact .inl (.inr ⟨o, s _ _ h (fun _ z => by cases z)⟩)
      · exact .inr h) (dp_extA s q)
theorem dp_extA {K : PySem.W.Frag} {H H' : Hp} (s : ∀ b o, H b = some o → (∀ ps, o ≠ .tbl ps) → H' b = some o) : ∀ {vs : List V} {ds : List PyData}, DpAll K H vs ds → DpAll K H' vs ds
  | _, _, .nil => .nil
  | _, _, .cons h q => .cons (dp_ext s h) (dp_extA s q)
end
theorem Itm.ext {K : PySem.W.Frag} {H H' : Hp} {v : V} {d : PyData} (i : Itm K H v d) (s : ∀ b o, H b = some o → (∀ ps, o ≠ .tbl ps) → H' b = some o) : Itm K H' v d := by
  cases i with
  | dp h n => exact .dp (dp_ext s h) n
  | dct h q => exact .dct (s _ _ h (fun _ z => by cases z)) q
/-! ### a maker of lambdas whose callees say repr -/
section
variable {P : Program} {w : World} {K : PySem.W.Frag} {mg : Str → Option Value} {base : Heap}
theorem FnG.mkC {x qual : Str} {st : Stmt} {f c : Addr} {fd : FuncData} {N ps : List Str} {k : Nat} {sp : Sp} (F : FunC K x qual st f fd c) (S : FnScope N ps (defScope st)) (len : ∀ vs H Q E, sp vs H Q E → vs.length = ps.length)
    (go : ∀ (A : Around) (outer : List Env) (s : Shared) (H : Hp) (vs : List V) (Q : VK) (E : XK), A.guards = some [] → Room k (A.deeper (envOfC qual (defScope st) s.heap.objs.size f (.ref c))) → sp vs H Q E →
      ∃ t, PSs (cxOf CX0 P w K mg base N qual (defScope st) f (.ref c) A outer s H E).nox (defBody st) t ∧ t { nx := fun _ H' => Q .non H', rt := Q } (start N vs) H) : FnG P w K mg base (k + 1) f fd ps sp := by
  obtain ⟨oc, od, kV, doc, pm, an, ct, osl, rfl, lk, hcd⟩ := F.ex
  refine ⟨len, fun A outer s H args us vs Q E hg hr e0 hb r hsp => ?_⟩
  have hlen := len _ _ _ _ hsp
  have inS : K.In s.heap := e0.mod.kin.keeps fun b o e => (e0.bs b o e).1
  have limS : s.heap.NoLimit := e0.mod.nolimit.keeps fun b o e => (e0.bs b o e).1
  have kinds : ∀ y ∈ ps.zip us, (defScope st).names.lookup y.1 = some .local ∨ ((defScope st).names.lookup y.1 = some .cell ∧ ((cellsFrom (s.heap.objs.size + 1) (defScope st).names []).lookup y.1).isSome = true) := by
    rintro ⟨n, v⟩ hy
    exact (S.par n (List.of_mem_zip hy).1).imp id fun q => ⟨q, PySem.W.cellsFrom_some _ _ _ (.inl q)⟩
  refine codeAny_call_function hr.depth (inS _ _ lk) rfl S.co S.gen rfl (PySem.W.codeRec_of inS hcd) (hb _ _ _ _ ?_)
  refine wpAny_newFunctionEnv_cells S.kind kinds fun env henv s1 x => ?_
  subst henv
  refine ⟨limS.keeps x.toInCall.keep, codeAny_func ?_⟩
  obtain ⟨t, ht, hq⟩ := go A outer s H vs Q E hg (hr.deeper _) hsp
  have I : Inv (cxOf CX0 P w K mg base N qual (defScope st) f (.ref c) A outer s H E) [] (start N vs) H s1 := inv_start S hr.hd e0 hlen r x
  refine wpAny_mono (ht.nox.run [] s1 (start N vs) H _ I hq) (fun fl s' hs => ?_) fun e s' hs => hs
  cases fl with
  | ret u =>
    obtain ⟨v, σ', H', J, rv, q⟩ := hs
    exact ⟨v, H', J.os, J.bare, J.base, J.hok, rv, q⟩
  | next =>
    obtain ⟨σ', H', J, q⟩ := hs
    exact ⟨V.non, H', J.os, J.bare, J.base, J.hok, rfl, q⟩
  | brk => exact hs.elim fun _ z => z.elim fun _ y => y.2.elim
  | cont => exact hs.elim fun _ z => z.elim fun _ y => y.2.elim
end
/-! ### classes made with keywords, whose making may raise -/
section
variable (P : Program) (w : World) (K : PySem.W.Frag) (mg : Str → Option Value) (base : Heap)
def MakDE (k : Nat) (x : Str) (C : Addr) (dvs : List V) (sp : Sp) : Prop := ∃ f fd ps ds, FnOk P w K mg base (L2.CX P w) k f fd ps sp ∧ Mk K C f ∧ mg x = some (.ref C) ∧ Binds K fd ps ds ∧ Vals dvs ds
def MakKE (k : Nat) (x : Str) (C : Addr) (ks : List Str) (gV : List V → List V → List V) (sp : Sp) : Prop := ∃ f fd ps g, FnOk P w K mg base (L2.CX P w) k f fd ps sp ∧ Mk K C f ∧ mg x = some (.ref C) ∧ KBn K fd ps 1 ks g gV
def MakNE (k : Nat) (x : Str) (C : Addr) (n : Nat) (ks : List Str) (gV : List V → List V → List V) (sp : Sp) : Prop := ∃ f fd ps g, FnOk P w K mg base (L2.CX P w) k f fd ps sp ∧ Mk K C f ∧ mg x = some (.ref C) ∧ KBn K fd ps (n + 1) ks g gV
end
section
variable {X : Cx} {k j n : Nat} {x : Str} {C : Addr} {sp : Sp} {dvs : List V} {e : Expr} {es : List Expr} {kws : List Keyword} {ks : List Str} {gV : List V → List V → List V} {t tk : TA} {p pos : Pos} {E : XK}
theorem pe_nDE (c : MakDE X.prog X.w X.K X.mg X.base k x C dvs sp) (px : Passes (L2.CX X.prog X.w) X E) (hr : Room j X.A) (hk : k + 1 ≤ j) (hg : Gl X x) (ha : PA X (e :: es) t) (hdb : (x == ("__debug__" : Str)) = false := by decide)
    (he : starEach (e :: es) X.env = (false, eval e X.env) :: starEach es X.env := by rfl) (hpl : (backTo pos (starEach es X.env)).any (·.1) = false := by rfl) : PE X (.Call (.Name x p) (e :: es) [] pos) (tMake C sp dvs E t) := by
  obtain ⟨f, fd, ps, ds, F, M, g, b, v⟩ := c
  exact pe_make M F (hr.mono hk) hg g b v px ha hdb he hpl
theorem pe_nKE (c : MakKE X.prog X.w X.K X.mg X.base k x C ks gV sp) (px : Passes (L2.CX X.prog X.w) X E) (hr : Room j X.A) (hk : k + 1 ≤ j) (hg : Gl X x) (hkw : PK X kws tk)
    (hall : (backToKw pos (keywordEach kws X.env)).all (·.1.isSome) = true := by rfl) (hks : (backToKw pos (keywordEach kws X.env)).filterMap (·.1) = ks := by rfl) (hdb : (x == ("__debug__" : Str)) = false := by decide)
    (hpl : ((backTo pos (starEach [] X.env)).any (·.1) || (backToKw pos (keywordEach kws X.env)).any (·.1.isNone)) = false := by rfl) :
    PE X (.Call (.Name x p) [] kws pos) (tMakeK C 0 ks.length sp gV E tNil tk) := by
  obtain ⟨f, fd, ps, gg, F, M, g, b⟩ := c
  exact pe_makeK0 M F (hr.mono hk) hg g b px hkw hall hks hdb hpl
theorem pe_nNE (c : MakNE X.prog X.w X.K X.mg X.base k x C n ks gV sp) (px : Passes (L2.CX X.prog X.w) X E) (hr : Room j X.A) (hk : k + 1 ≤ j) (hg : Gl X x) (ha : PA X (e :: es) t) (hkw : PK X kws tk)
    (h1 : (backToKw pos (keywordEach kws X.env)).all (·.1.isSome) = true := by rfl) (h2 : (backToKw pos (keywordEach kws X.env)).filterMap (·.1) = ks := by rfl) (h3 : (x == ("__debug__" : Str)) = false := by decide)
    (h4 : starEach (e :: es) X.env = (false, eval e X.env) :: starEach es X.env := by rfl)
    (h5 : ((backTo pos (starEach (e :: es) X.env)).any (·.1) || (backToKw pos (keywordEach kws X.env)).any (·.1.isNone)) = false := by rfl) :
    PE X (.Call (.Name x p) (e :: es) kws pos) (tMakeN C n ks.length sp gV E t tk) := by
  obtain ⟨f, fd, ps, g, F, M, m, b⟩ := c
  exact pe_makeN M F (hr.mono hk) hg m b px ha hkw h1 h2 h3 h4 h5
end
end UL
set_option Elab.async false
set_option linter.all false
set_option maxRecDepth 100000
set_option maxHeartbeats 4000000
/-! ### the law's own call: no repr is under way, a maker's tables -/
namespace UL
open PySem PySem.Spec PyProof.Rows L2 LamX
section
variable {P : Program} {w : World} {K : PySem.W.Frag} {mg mb : Str → Option Value} {k : Nat} {fa a : Addr} {cs : List (Addr × Addr)} {fd : FuncData} {x : Str} {sp : Sp} {s₁ : Shared} {vs : List Value} {ns : List Int}
/-- what may stand at b when the law is called -/
def AtFirst (K : PySem.W.Frag) (h : Heap) (a : Addr) (vs : List Value) (cs : List (Addr × Addr)) (H : Hp) (b : Addr) : Prop :=
  H b = none ∨ (b = a ∧ K.lookup a = none ∧ ∃ xs, H b = some (.frz { cls := .type "list", data := .seq vs.toArray } (.lst xs))) ∨ (∃ p ∈ cs, b = p.2 ∧ H b = some (.tbl #[]))
theorem call_fromS {H : Hp} (KX : K.In s₁.heap) (hns : s₁.heap.Ns mainGlobals mg) (hb : s₁.heap.Ns builtinsNs mb) (hbb : ∀ x : Str, x ≠ "__name__" → mb x = bootBuiltins x) (hlim : s₁.heap.NoLimit) (hg : s₁.gens = #[])
    (hT : ∀ p ∈ cs, s₁.heap.get? p.2 = some { cls := .none, data := .fields #[] }) (nT : ∀ p ∈ cs, K.lookup p.2 = none) (cP : ∀ p ∈ cs, PySem.W.codeHdIn K p.1 p.2 = true)
    (hbm : ∃ (bm : Addr) (ob : Obj), mg "__builtins__" = some (.ref bm) ∧ bm ≠ builtinsNs ∧ s₁.heap.get? bm = some ob ∧ ob.cls = .type "module" ∧ ob.dict = some builtinsNs ∧ ob.data = .plain)
    (ha : s₁.heap.get? a = some { cls := .type "list", data := .seq vs.toArray }) (hr : Room k callerA)
    (F : ∀ base : Heap, K.In base → base.Ns mainGlobals mg → (∀ p ∈ cs, TabB base mg p.1 p.2) → FnG P w K mg base k fa fd [x] sp) (hbind : ∀ (s : Shared) (u : Value), BindsTo s fd ⟨[u], []⟩ [(x, u)])
    (only : ∀ b, AtFirst K s₁.heap a vs cs H b) (hok : HOk P w H s₁.heap) (hsp : sp [.ref a] H (fun v _ => v = .bl true) fun _ _ _ => False) :
    codeAny (model P w) callerA (.call (.ref fa) ⟨[.ref a], []⟩) (fun r s' => r = .ok (.ret (.bool true)) ∧ OldK s₁.heap s'.heap ∧ s'.os = s₁.os ∧ AllBare s'.gens) s₁ := by
  have stays : ∀ {b : Addr} {o : Obj}, s₁.heap.get? b = some o → H b = none → (hidT s₁.heap H).get? b = some o := fun e n => hidT_get e n
  have free : ∀ {b : Addr} {o : Obj}, s₁.heap.get? b = some o → (∀ n, o.data ≠ .seq vs.toArray n) → o.data ≠ .fields #[] → H b = none := fun {b o} e h1 h2 => by
    rcases only b with z | ⟨z, _, _⟩ | ⟨p, hp, z, _⟩
    · exact z
    · rw [z, ha] at e
      cases e
      exact (h1 _ rfl).elim
    · rw [z, hT p hp] at e
      cases e
      exact (h2 rfl).elim
  have hKb : K.In (hidT s₁.heap H) := fun b o e => stays (KX b o e) (by
    rcases only b with z | ⟨z, y, _⟩ | ⟨p, hp, z, _⟩
    · exact z
    · rw [z, y] at e
      cases e
    · rw [z, nT p hp] at e
      cases e)
  have nsK : ∀ {b : Addr} {m : Str → Option Value}, s₁.heap.Ns b m → (hidT s₁.heap H).Ns b m := fun {b m} ⟨o, es, ep, e, d, r⟩ => ⟨o, es, ep, stays e (free e (fun n z => by rw [d] at z; cases z) (fun z => by rw [d] at z; cases z)), d, r⟩
  have nG := nsK hns
  have hM : Mod K mg (hidT s₁.heap H) := ⟨hKb, nG, ⟨mb, nsK hb, hbb⟩, let ⟨mc, h1, h2⟩ := hlim; ⟨mc, nsK h1, h2⟩⟩
  have TB : ∀ p ∈ cs, TabB (hidT s₁.heap H) mg p.1 p.2 := fun p hp => by
    obtain ⟨bm, ob, q1, q2, q3, q4, q5, q6⟩ := hbm
    have g1 : bm ≠ mainGlobals := fun z => by
      obtain ⟨o, es, ep, e, hd, _⟩ := id hns
      rw [z, e] at q3
      cases q3
      rw [hd] at q6
      cases q6
    have g2 : bm ≠ p.2 := fun z => by
      rw [z, hT p hp] at q3
      cases q3
      cases q6
    refine ⟨PySem.W.codeHd_of_K hKb (cP p hp), ⟨bm, ob, q1, q2, g1, g2, stays q3 (free q3 (fun n z => by rw [q6] at z; cases z) (fun z => by rw [q6] at z; cases z)), q4, q5, q6⟩, fun z => ?_⟩
    obtain ⟨o, es, ep, e, hd, _⟩ := id hns
    rw [z, hT p hp] at e
    cases e
    cases hd
  have e0 : Env0 P w K mg (hidT s₁.heap H) callerA [] s₁ H := ⟨rfl, hM, fun b o e => of_hidT e, Nat.le_of_eq (hidT_size _ _), trivial, fun b z => (nomatch (show b ∈ ([] : List Addr) from z)), hok, .of_eq hg⟩
  refine codeAny_mono ((F _ hKb nG TB).run callerA [] s₁ H ⟨[.ref a], []⟩ [.ref a] [.ref a] _ _ rfl hr e0 (hbind s₁ (.ref a)) (.cons rfl .nil) hsp) fun r s' h => ?_
  match r, h with
  | .ok (.ret u), ⟨v, H', os, bare, un, hok', r', q⟩ =>
    cases (show v = .bl true from q)
    cases (show u = Value.bool true from r')
    have frz : ∀ {b : Addr} {o ob : Obj} {z : HO}, H b = some (.frz ob z) → s₁.heap.get? b = some o → s'.heap.get? b = some o := fun {b o ob z} hz e => by
      obtain ⟨e1, _⟩ := hok b _ hz
      obtain ⟨e2, _⟩ := hok' b _ (un.frzs b ob _ hz)
      rw [e] at e1
      cases e1
      exact e2
    have grown : ∀ p ∈ cs, H p.2 = some (.tbl #[]) → ∃ more : Array Value, s'.heap.get? p.2 = some { cls := .none, data := .fields more } := fun p hp e => by
      obtain ⟨more, z⟩ := un.tbls p.2 #[] e
      exact ⟨_, hok' p.2 _ z⟩
    refine ⟨rfl, ⟨fun b o e => ?_, fun b o e => ?_⟩, os, bare⟩
    · rcases only b with z | ⟨_, _, xs, z⟩ | ⟨p, hp, y, z⟩
      · exact .inl (un.keep b o e z (fun y => nomatch (show b ∈ ([] : List Addr) from y)) (fun y => nomatch (show b ∈ ([] : List Addr) from y)))
      · exact .inl (frz z e)
      · subst y
        obtain ⟨more, hm⟩ := grown p hp z
        rw [hT p hp] at e
        cases e
        exact .inr (.inl ⟨((PySem.W.codeHd_of_K KX (cP p hp)).tab (hT p hp)).isCodeTable, rfl, #[], more, rfl, by rw [Array.empty_append]; exact hm⟩)
    · rcases only b with z | ⟨_, _, xs, z⟩ | ⟨p, hp, y, z⟩
      · exact ⟨o, un.keep b o e z (fun y => nomatch (show b ∈ ([] : List Addr) from y)) (fun y => nomatch (show b ∈ ([] : List Addr) from y))⟩
      · exact ⟨o, frz z e⟩
      · subst y
        obtain ⟨more, hm⟩ := grown p hp z
        exact ⟨_, hm⟩
theorem law_callS (KX : K.In s₁.heap) (hns : s₁.heap.Ns mainGlobals mg) (hb : s₁.heap.Ns builtinsNs mb) (hbb : ∀ x : Str, x ≠ "__name__" → mb x = bootBuiltins x) (hlim : s₁.heap.NoLimit) (hg : s₁.gens = #[])
    (hT : ∀ p ∈ cs, s₁.heap.get? p.2 = some { cls := .none, data := .fields #[] }) (nT : ∀ p ∈ cs, K.lookup p.2 = none) (cP : ∀ p ∈ cs, PySem.W.codeHdIn K p.1 p.2 = true)
    (hbm : ∃ (bm : Addr) (ob : Obj), mg "__builtins__" = some (.ref bm) ∧ bm ≠ builtinsNs ∧ s₁.heap.get? bm = some ob ∧ ob.cls = .type "module" ∧ ob.dict = some builtinsNs ∧ ob.data = .plain)
    (ha : s₁.heap.get? a = some { cls := .type "list", data := .seq vs.toArray }) (hi : IntsAre vs ns) (hl : ns.length ≤ sizeLine) (hr : Room k callerA)
    (F : ∀ base : Heap, K.In base → base.Ns mainGlobals mg → (∀ p ∈ cs, TabB base mg p.1 p.2) → FnG P w K mg base k fa fd [x] sp) (hbind : ∀ (s : Shared) (u : Value), BindsTo s fd ⟨[u], []⟩ [(x, u)])
    (hsp : ∀ H : Hp, (∀ p ∈ cs, H p.2 = some (.tbl #[])) → SqL K H a (ns.map V.int) → sp [.ref a] H (fun v _ => v = .bl true) fun _ _ _ => False) :
    codeAny (model P w) callerA (.call (.ref fa) ⟨[.ref a], []⟩) (fun r s' => r = .ok (.ret (.bool true)) ∧ OldK s₁.heap s'.heap ∧ s'.os = s₁.os ∧ AllBare s'.gens) s₁ := by
  have rv := vals_ints hi
  have lenV := hi.length
  have aT : ∀ p ∈ cs, p.2 ≠ a := fun p hp z => by
    have q := hT p hp
    rw [z, ha] at q
    cases q
  let H0 : Hp := fun b => if b ∈ cs.map (·.2) then some (.tbl #[]) else if b = a ∧ K.lookup a = none then some (.frz { cls := .type "list", data := .seq vs.toArray } (.lst (ns.map V.int))) else none
  have eT : ∀ p ∈ cs, H0 p.2 = some (.tbl #[]) := fun p hp => if_pos (List.mem_map.mpr ⟨p, hp, rfl⟩)
  have nT' : ∀ b, b ∉ cs.map (·.2) → H0 b = if b = a ∧ K.lookup a = none then some (.frz { cls := .type "list", data := .seq vs.toArray } (.lst (ns.map V.int))) else none := fun b hb => if_neg hb
  have aN : a ∉ cs.map (·.2) := fun z => by
    obtain ⟨p, hp, e⟩ := List.mem_map.mp z
    exact aT p hp e
  have oA : ∀ b u, H0 b = some u → AtFirst K s₁.heap a vs cs H0 b ∧ ObjOk P w H0 s₁.heap b u := fun b u e => by
    by_cases c : b ∈ cs.map (·.2)
    · obtain ⟨p, hp, ep⟩ := List.mem_map.mp c
      subst ep
      have e' := eT p hp
      rw [e'] at e
      cases e
      exact ⟨.inr (.inr ⟨p, hp, rfl, e'⟩), hT p hp⟩
    · have e' := nT' b c
      by_cases d : b = a ∧ K.lookup a = none
      · rw [if_pos d] at e'
        rw [e'] at e
        cases e
        obtain ⟨rfl, d2⟩ := d
        exact ⟨.inr (.inl ⟨rfl, d2, _, e'⟩), ha, by rw [List.length_map]; exact hl, vs, _, rv, ha⟩
      · rw [if_neg d] at e'
        rw [e'] at e
        cases e
  refine call_fromS (H := H0) KX hns hb hbb hlim hg hT nT cP hbm ha hr F hbind (fun b => ?_) (fun b u e => (oA b u e).2) (hsp H0 eT ?_)
  · cases e : H0 b with
    | none => exact .inl e
    | some u => exact (oA b u e).1
  · cases hk : K.lookup a with
    | some o =>
      obtain rfl : _ = o := Option.some.inj (ha.symm.trans (KX a o hk))
      exact .inr ⟨_, vs.toArray, _, hk, rfl, rfl, rfl, by rw [List.size_toArray, lenV]; exact hl, by simpa using rv⟩
    | none =>
      have e' := nT' a aN
      rw [if_pos ⟨rfl, hk⟩] at e'
      exact .inl (.inr ⟨_, e'⟩)
end
/-- what is known of the law's promise at the head's heap -/
def LawAtG (l : PySem.W.OpenLaw) (w : World) (K : PySem.W.Frag) (k n : Nat) (x : Str) (mg : Str → Option Value) (fa : Addr) (h : Heap) : Prop :=
  ∃ (fd : FuncData) (cs : List (Addr × Addr)) (sp : Sp), (∀ p ∈ cs, h.get? p.2 = some { cls := .none, data := .fields #[] }) ∧ (∀ p ∈ cs, K.lookup p.2 = none) ∧ (∀ p ∈ cs, PySem.W.codeHdIn K p.1 p.2 = true) ∧
    (∀ (s : Shared) (u : Value), BindsTo s fd ⟨[u], []⟩ [(x, u)]) ∧
    (∀ (H : Hp) (a : Addr) (ns : List Int), ns.length ≤ n → (∀ p ∈ cs, H p.2 = some (.tbl #[])) → SqL K H a (ns.map V.int) → sp [.ref a] H (fun v _ => v = .bl true) fun _ _ _ => False) ∧
    ∀ base : Heap, K.In base → base.Ns mainGlobals mg → (∀ p ∈ cs, TabB base mg p.1 p.2) → FnG l.prog w K mg base k fa fd [x] sp
theorem walkGS {l : PySem.W.OpenLaw} {n k : Nat} {q : Program} {loose : List Str} {XP : (Str → Option Value) → Heap → Prop} {YP : World → Heap → Prop} {d : DefRec} {K : Params → PySem.W.Frag} {x : Str}
    (hn : l.most = some n) (hn2 : n ≤ sizeLine) (hdf : d.params.defaults = []) (hr : Room k callerA) (hY : ∀ (w : World) (h : Heap), YP w h → (K w.params).In h)
    (F : ∀ (w : World) (mg : Str → Option Value) (fa : Addr) (h : Heap), YP w h → (K w.params).In h → h.Ns mainGlobals mg → mg d.name = some (.ref fa) → LawAtG l w (K w.params) k n x mg fa h) :
    PySem.W.WalkO q loose XP YP l.row.toRowW d [] (fun f vs => PySem.call f vs) := by
  refine Att.attach_call hn hdf fun w s₀ s₁ mg mb fa o pm cd doc a vs ns G Y _ _ _ hmg hobj hints hlen hg => ?_
  have KX := hY w _ Y
  obtain ⟨fd, cs, sp, hT, nT, cP, hb, hsp, hF⟩ := F w mg fa _ Y KX G.T.g hmg
  exact law_callS KX G.T.g G.T.b G.T.builtins G.T.nolimit hg hT nT cP G.T.bmain hobj hints (Nat.le_trans hlen hn2) hr hF hb fun H h1 h2 => hsp H a ns hlen h1 h2
end UL
set_option Elab.async false
set_option linter.all false
set_option maxRecDepth 100000
set_option maxHeartbeats 4000000
/-! ### isinstance(e, C) of a caught error, which it is -/
namespace UL
open PySem PySem.Spec PyProof.Rows L2
section
variable {prog : Program} {w : World} {A : Around} {E : Value → Shared → Prop} {s : Shared} {K : PySem.W.Frag} {x t c : Value} {Q : Value → Shared → Prop}
theorem isi_true (X : K.In s.heap) (LT : PySem.W.Looks (model prog w) s.heap (typeOf x) t) (e : PySem.W.kitCls K t c = some true) (ne : (t == c) = false) (hx : x ≠ .builtin "__main__.__loader__#opaque") (h : ∀ tk, Q (.bool true) { s with toks := tk }) :
    wpAny (model prog w) A (call (.builtin "isinstance") [x, c]) Q E s := by
  obtain ⟨hty, his, hsub⟩ := PySem.W.kit_cls (M := model prog w) X e
  have LI : PySem.W.Looks (model prog w) s.heap (isInstance x c) true := LT.andThen hsub
  obtain ⟨hp, g, d, tt, os⟩ := s
  refine call_isinstance_of ?_ hx
  unfold Builtin.«isinstance.nested»
  refine wpAny_bind (LT.at ?_)
  rw [ne, if_neg Bool.false_ne_true]; refine wpAny_bind (hty.at ?_)
  rw [if_pos (by decide)]; k_delta "plainIsInstance"
  refine wpAny_bind (wpAny_bind (his.at ?_)); simp only [Bool.not_true, Bool.false_eq_true, if_false]
  refine wpAny_bind (LI.at ?_); first
    | exact wpAny_pure (wpAny_pure (h tt))
    | (simp only [if_true]; first | exact wpAny_pure (wpAny_pure (h tt)) | exact wpAny_pure (h tt) | exact wpAny_bind (wpAny_pure (wpAny_pure (h tt))))
end
/-- isinstance(e, c), e the error that the suite holds, c a class above its own -/
def rIsT (K : PySem.W.Frag) (a : Addr) (cls : Value) : List V → Hp → VK → Prop := fun xs H Q => ∃ (c : V) (cv : Value), xs = [.ref a, c] ∧ (∀ u, RelV c u → u = cv) ∧ PySem.W.kitCls K cls cv = some true ∧ (cls == cv) = false ∧ Q (.bl true) H
theorem call_isT {X : Cx} {a : Addr} {cls : Value} {d : Option Addr} {oe : Obj} {pn : List (Addr × Obj)} (hz : Zc cls d oe) : CallR (X.suite a ((a, oe) :: pn)) (.builtin "isinstance") (rIsT X.K a cls) := by
  intro pins s σ H xs us Q I r h
  obtain ⟨c, cv, rfl, hcv, e, ne, q⟩ := h
  obtain ⟨u1, u2, rfl, r1, r2⟩ := vals2 r
  cases (show u1 = Value.ref a from r1)
  obtain rfl := hcv _ r2
  obtain ⟨hget, _⟩ := I.pin (a, oe) (List.mem_append.mpr (.inl List.mem_cons_self))
  have LT : PySem.W.Looks (model X.prog X.w) s.heap (typeOf (.ref a)) cls := fun A Q E s' k q => wpAny_typeOf_ref (k _ _ hget) (by rw [hz.1]; exact q)
  exact isi_true I.kIn LT e ne (fun z => nomatch z) fun tk => ⟨.bl true, H, I.tok tk, rfl, q⟩
end UL
set_option Elab.async false
set_option linter.all false
set_option maxRecDepth 100000
set_option maxHeartbeats 4000000
/-! ### values of any kind; menus; what a told list fits in; an own + beside anything; lists beside an empty one -/
namespace UL
open PySem PySem.Spec PyProof.Rows L2 LamX
/-! values of any kind: what they are -/
inductive Vd (K : PySem.W.Frag) (H : Hp) : V → PyData → Prop
  | non : Vd K H .non .none
  | bl (b : Bool) : Vd K H (.bl b) (.bool b)
  | int (i : Int) : Vd K H (.int i) (.int i)
  | str (x : Str) : Vd K H (.str x) (.str x)
  | lst {a : Addr} {ds : List PyData} (h : ∃ xs, H a = some (.lst xs)) : Vd K H (.ref a) (.list ds)
  | tup {a : Addr} {ds : List PyData} (h : ∃ xs, H a = some (.tup xs)) : Vd K H (.ref a) (.tuple ds)
  | dct {a : Addr} {ds : List (PyData × PyData)} (h : ∃ kvs, H a = some (.dK kvs)) : Vd K H (.ref a) (.dict ds)
/-- the type's name -/
def tyN : PyData → String
  | .none => "NoneType"
  | .bool _ => "bool"
  | .int _ => "int"
  | .str _ => "str"
  | .list _ => "list"
  | .tuple _ => "tuple"
  | .dict _ => "dict"
abbrev T7 : List String := ["NoneType", "tuple", "str", "int", "list", "bool", "dict"]
theorem tyN_mem (d : PyData) : tyN d ∈ T7 := by cases d <;> simp [tyN, T7]
theorem Vd.ty {K : PySem.W.Frag} {H : Hp} {v : V} {d : PyData} (h : Vd K H v d) : TyX K H v (.type (tyN d)) := by
  cases h with
  | non => exact .base .non
  | bl b => exact .base (.bl b)
  | int i => exact .base (.int i)
  | str x => exact .base (.str x)
  | lst h =>
    obtain ⟨_, h⟩ := h
    exact .base (.lst h)
  | tup h =>
    obtain ⟨_, h⟩ := h
    exact .base (.tup h)
  | dct h =>
    obtain ⟨_, h⟩ := h
    exact .base (.dK h)
theorem Vd.ext {K : PySem.W.Frag} {H H' : Hp} {v : V} {d : PyData} (h : Vd K H v d) (s : ExtN H H') : Vd K H' v d := by
  cases h with
  | non => exact .non
  | bl b => exact .bl b
  | int i => exact .int i
  | str x => exact .str x
  | lst h =>
    obtain ⟨_, h⟩ := h
    exact .lst ⟨_, s _ _ h (by simp)⟩
  | tup h =>
    obtain ⟨_, h⟩ := h
    exact .tup ⟨_, s _ _ h (by simp)⟩
  | dct h =>
    obtain ⟨_, h⟩ := h
    exact .dct ⟨_, s _ _ h (by simp)⟩
theorem Vd.same {K : PySem.W.Frag} {H H' : Hp} {v : V} {d : PyData} (h : Vd K H v d) (s : L2.Same H H') : Vd K H' v d := h.ext (ExtN.of s)
def isS : PyData → Bool
  | .str _ => true
  | _ => false
def isB : PyData → Bool
  | .bool _ => true
  | _ => false
def isI : PyData → Bool
  | .int _ => true
  | _ => false
theorem kit_str {K : PySem.W.Frag} (d : PyData) : PySem.W.kitOne K (.type (tyN d)) (.type "str") = some (isS d) := by cases d <;> simp only [tyN, isS] <;> exact kit_ty (by decide +kernel)
theorem kit_bool {K : PySem.W.Frag} (d : PyData) : PySem.W.kitOne K (.type (tyN d)) (.type "bool") = some (isB d) := by cases d <;> simp only [tyN, isB] <;> exact kit_ty (by decide +kernel)
theorem kit_int {K : PySem.W.Frag} (d : PyData) : PySem.W.kitOne K (.type (tyN d)) (.type "int") = some (isI d || isB d) := by cases d <;> simp only [tyN, isI, isB] <;> exact kit_ty (by decide +kernel)
theorem isI_at {K : PySem.W.Frag} {H : Hp} {v : V} {d : PyData} (h : Vd K H v d) (e : isI d = true) : ∃ i, v = .int i ∧ d = .int i := by
  cases h <;> first | exact ⟨_, rfl, rfl⟩ | cases e
theorem isS_at {K : PySem.W.Frag} {H : Hp} {v : V} {d : PyData} (h : Vd K H v d) (e : isS d = true) : ∃ x, v = .str x ∧ d = .str x := by
  cases h <;> first | exact ⟨_, rfl, rfl⟩ | cases e
theorem isIB (d : PyData) : ((isI d || isB d) && !isB d) = isI d := by cases d <;> rfl
/-! values from a menu -/
inductive Mv (p : Addr) (H : Hp) : V → PyData → Prop
  | flat {v : V} (h : flatV v = true) : Mv p H v (flatD v)
  | lst {a : Addr} {xs : List V} (h : H a = some (.lst xs)) (n : a ≠ p) (f : xs.all flatV = true) : Mv p H (.ref a) (.list (xs.map flatD))
  | tup {a : Addr} {xs : List V} (h : H a = some (.tup xs)) (f : xs.all flatV = true) : Mv p H (.ref a) (.tuple (xs.map flatD))
  | dct {a : Addr} {kvs : List (Key × V)} (h : H a = some (.dK kvs)) (q : ∀ e ∈ kvs, flatV e.2 = true) : Mv p H (.ref a) (.dict (kvs.map fun e => (keyD e.1, flatD e.2)))
theorem Mv.stay {p : Addr} {H H' : Hp} {v : V} {d : PyData} (m : Mv p H v d) (hp : Pot H p) (s : Stay p H H') : Mv p H' v d := by
  obtain ⟨x, y, hp, _⟩ := hp
  cases m with
  | flat h => exact .flat h
  | lst h n f => exact .lst (s _ _ n h) n f
  | tup h f => exact .tup (s _ _ (ne_of h hp (by intro z; cases z)) h) f
  | dct h q => exact .dct (s _ _ (ne_of h hp (by intro z; cases z)) h) q
theorem Mv.ext {p : Addr} {H H' : Hp} {v : V} {d : PyData} (m : Mv p H v d) (s : ExtN H H') : Mv p H' v d := by
  cases m with
  | flat h => exact .flat h
  | lst h n f => exact .lst (s _ _ h (by simp)) n f
  | tup h f => exact .tup (s _ _ h (by simp)) f
  | dct h q => exact .dct (s _ _ h (by simp)) q
theorem Mv.same {p : Addr} {H H' : Hp} {v : V} {d : PyData} (m : Mv p H v d) (s : L2.Same H H') : Mv p H' v d := m.ext (ExtN.of s)
/-- a list that holds something not plain is written anew -/
theorem Mv.grow {p La : Addr} {H : Hp} {v : V} {d : PyData} {xs : List V} {o : HO} (m : Mv p H v d) (h : H La = some (.lst xs)) (nf : xs.all flatV = false) : Mv p (upd H La o) v d := by
  cases m with
  | flat h => exact .flat h
  | @lst a ys hx n f =>
    have na : a ≠ La := fun z => by
      rw [z, h] at hx
      cases hx
      rw [f] at nf
      cases nf
    exact .lst ((upd_ne na).trans hx) n f
  | @tup a ys hx f =>
    have na : a ≠ La := fun z => by
      rw [z, h] at hx
      cases hx
    exact .tup ((upd_ne na).trans hx) f
  | @dct a ys hx q =>
    have na : a ≠ La := fun z => by
      rw [z, h] at hx
      cases hx
    exact .dct ((upd_ne na).trans hx) q
theorem flat_vd {K : PySem.W.Frag} {H : Hp} : ∀ {v : V}, flatV v = true → Vd K H v (flatD v)
  | .non, _ => .non
  | .bl b, _ => .bl b
  | .int i, _ => .int i
  | .str x, _ => .str x
  | .ref _, h => by cases h
theorem Mv.vd {K : PySem.W.Frag} {p : Addr} {H : Hp} {v : V} {d : PyData} (m : Mv p H v d) : Vd K H v d := by
  cases m with
  | flat h => exact flat_vd h
  | lst h n f => exact .lst ⟨_, h⟩
  | tup h f => exact .tup ⟨_, h⟩
  | dct h q => exact .dct ⟨_, h⟩
theorem flat_dp {K : PySem.W.Frag} {H : Hp} : ∀ {v : V}, flatV v = true → Dp K H v (flatD v) ∧ (flatD v).hasDict = false
  | .non, _ => ⟨.non, rfl⟩
  | .bl b, _ => ⟨.bl b, rfl⟩
  | .int i, _ => ⟨.int i, rfl⟩
  | .str x, _ => ⟨.str x, rfl⟩
  | .ref _, h => by cases h
theorem flats_dp {K : PySem.W.Frag} {H : Hp} : ∀ {xs : List V}, xs.all flatV = true → DpAll K H xs (xs.map flatD) ∧ PyData.hasDictAll (xs.map flatD) = false
  | [], _ => ⟨.nil, rfl⟩
  | x :: xs, h => by
    simp only [List.all_cons, Bool.and_eq_true] at h
    obtain ⟨h1, h2⟩ := flat_dp (K := K) (H := H) h.1
    obtain ⟨h3, h4⟩ := flats_dp (K := K) (H := H) h.2
    exact ⟨.cons h1 h3, by simp [PyData.hasDictAll, h2, h4]⟩
theorem Mv.itm {K : PySem.W.Frag} {p : Addr} {H : Hp} {v : V} {d : PyData} (m : Mv p H v d) : Itm K H v d := by
  cases m with
  | flat h => exact .flat h
  | lst h n f =>
    obtain ⟨h1, h2⟩ := flats_dp (K := K) (H := H) f
    exact .dp (.lst (SqL.of h) h1) (by simpa [PyData.hasDict] using h2)
  | tup h f =>
    obtain ⟨h1, h2⟩ := flats_dp (K := K) (H := H) f
    exact .dp (.tup (SqT.of h) h1) (by simpa [PyData.hasDict] using h2)
  | dct h q => exact .dct h q
/-- small enough -/
def fine (d : PyData) : Bool := d.showable && decide (d.depth ≤ 2) && decide (d.shown.length ≤ 1000) && match d with
  | .str x => decide (x.length ≤ 1000)
  | _ => true
/-- all that a list offers is small, and P says b of it -/
def Menu (p : Addr) (H : Hp) (P : PyData → Bool) (b : Bool) (xs : List V) : Prop := ∀ v ∈ xs, ∃ d, Mv p H v d ∧ fine d = true ∧ P d = b
theorem Menu.nil {p : Addr} {H : Hp} {P : PyData → Bool} {b : Bool} : Menu p H P b [] := fun _ h => by cases h
theorem Menu.cons {p : Addr} {H : Hp} {P : PyData → Bool} {b : Bool} {v : V} {d : PyData} {xs : List V} (m : Mv p H v d) (h1 : fine d = true) (h2 : P d = b) (r : Menu p H P b xs) : Menu p H P b (v :: xs) := fun u hu => by
  rcases List.mem_cons.mp hu with rfl | hu
  · exact ⟨d, m, h1, h2⟩
  · exact r u hu
theorem Menu.app {p : Addr} {H : Hp} {P : PyData → Bool} {b : Bool} {xs ys : List V} (r : Menu p H P b xs) (q : Menu p H P b ys) : Menu p H P b (xs ++ ys) := fun u hu => (List.mem_append.mp hu).elim (r u) (q u)
theorem Menu.same {p : Addr} {H H' : Hp} {P : PyData → Bool} {b : Bool} {xs : List V} (r : Menu p H P b xs) (s : L2.Same H H') : Menu p H' P b xs := fun u hu => by
  obtain ⟨d, m, h⟩ := r u hu
  exact ⟨d, m.same s, h⟩
theorem Menu.stay {p : Addr} {H H' : Hp} {P : PyData → Bool} {b : Bool} {xs : List V} (r : Menu p H P b xs) (hp : Pot H p) (s : Stay p H H') : Menu p H' P b xs := fun u hu => by
  obtain ⟨d, m, h⟩ := r u hu
  exact ⟨d, m.stay hp s, h⟩
theorem listText_le' : ∀ ts : List Str, (listText ts).length ≤ piled ts + 2
  | [] => by rw [listText_nil]; decide +kernel
  | t :: r => by
    have h := textFrom_length_pos r 1 (("[" : Str) ++ ("" : Str) ++ t) (by decide)
    have l1 : (("[" : Str)).length = 1 := by decide +kernel
    have l2 : (("" : Str)).length = 0 := by decide +kernel
    have l3 : (("]" : Str)).length = 1 := by decide +kernel
    have e : listText (t :: r) = textFrom 1 (("[" : Str) ++ ("" : Str) ++ t) r ++ "]" := rfl
    rw [e, Str.length_append, h, Str.length_append, Str.length_append, l1, l2, l3, piled_cons]
    omega
theorem fine_parts {d : PyData} (h : fine d = true) : d.showable = true ∧ d.depth ≤ 2 ∧ d.shown.length ≤ 1000 := by
  unfold fine at h
  simp only [Bool.and_eq_true, decide_eq_true_eq] at h
  exact ⟨h.1.1.1, h.1.1.2, h.1.2⟩
theorem fine_str {d : PyData} {x : Str} (h : fine d = true) (e : d = .str x) : x.length ≤ 1000 := by
  subst e
  unfold fine at h
  simp only [Bool.and_eq_true, decide_eq_true_eq] at h
  exact h.2
theorem fine_all : ∀ {ds : List PyData}, (∀ d ∈ ds, fine d = true) → PyData.showableAll ds = true ∧ PyData.depthAll ds ≤ 2 ∧ piled (PyData.shownAll ds) ≤ 1002 * ds.length
  | [], _ => ⟨rfl, by simp [PyData.depthAll], by simp [PyData.shownAll, piled_nil]⟩
  | d :: ds, h => by
    obtain ⟨h1, h2, h3⟩ := fine_all (ds := ds) fun x hx => h x (List.mem_cons_of_mem _ hx)
    obtain ⟨f1, f2, f3⟩ := fine_parts (h d List.mem_cons_self)
    refine ⟨by simp [PyData.showableAll, h1, f1], by simp only [PyData.depthAll]; omega, ?_⟩
    simp only [PyData.shownAll]
    rw [piled_cons, List.length_cons]
    omega
theorem told_fits {ds : List PyData} (hf : ∀ d ∈ ds, fine d = true) (hn : ds.length ≤ 1000) : PyData.showableAll ds = true ∧ PyData.depthAll ds ≤ 40 ∧ (PyData.list ds).shown.length ≤ sizeLine := by
  obtain ⟨h1, h2, h3⟩ := fine_all hf
  refine ⟨h1, by omega, line_ge ?_⟩
  have h := listText_le' (PyData.shownAll ds)
  simp only [PyData.shown]
  omega
theorem reprT_mk {K : PySem.W.Frag} {H : Hp} {a : Addr} {vs : List V} {ds : List PyData} {Q : VK} (ha : H a = some (.lst vs)) (hi : ItmAll K H vs ds) (hf : ∀ d ∈ ds, fine d = true) (hn : ds.length ≤ 1000) (q : Q (.str (PyData.list ds).shown) H) : rReprT K [.ref a] H Q := by
  obtain ⟨h1, h2, h3⟩ := told_fits hf hn
  exact ⟨a, vs, ds, rfl, ha, hi, h1, h2, h3, q⟩
/-- a list of short plain texts -/
theorem fine_strs {xs : List Str} (h : ∀ x ∈ xs, x.length ≤ 8 ∧ ∀ c ∈ x.cps.toList, c < 16 ^ 8) (hn : xs.length ≤ 11) : fine (.list (xs.map PyData.str)) = true := by
  have h1 : PyData.showableAll (xs.map PyData.str) = true := by
    clear h hn
    induction xs with
    | nil => rfl
    | cons x xs ih => simp [PyData.showableAll, PyData.showable, ih]
  have h2 : PyData.depthAll (xs.map PyData.str) ≤ 1 := by
    clear h hn h1
    induction xs with
    | nil => simp [PyData.depthAll]
    | cons x xs ih =>
      simp only [List.map_cons, PyData.depthAll, PyData.depth]
      omega
  have h3 : piled (PyData.shownAll (xs.map PyData.str)) ≤ 84 * xs.length := by
    clear hn h1 h2
    induction xs with
    | nil => simp [PyData.shownAll, piled_nil]
    | cons x xs ih =>
      have := ih fun y hy => h y (List.mem_cons_of_mem _ hy)
      obtain ⟨g1, g2⟩ := h x List.mem_cons_self
      have l := PySem.StrLaws.reprText_len x g2
      simp only [List.map_cons, PyData.shownAll, PyData.shown]
      rw [piled_cons, List.length_cons]
      omega
  have h4 := listText_le' (PyData.shownAll (xs.map PyData.str))
  unfold fine
  simp only [PyData.showable, h1, PyData.depth, PyData.shown, Bool.and_eq_true, decide_eq_true_eq, Bool.true_and, Bool.and_true]
  exact ⟨decide_eq_true (by omega), decide_eq_true (by omega)⟩
theorem fine_text {x : Str} (h : x.length ≤ 8) (g : ∀ c ∈ x.cps.toList, c < 16 ^ 8) : fine (.str x) = true := by
  have l := PySem.StrLaws.reprText_len x g
  unfold fine
  simp only [PyData.showable, PyData.depth, PyData.shown, Bool.and_eq_true, decide_eq_true_eq, Bool.true_and]
  exact ⟨⟨decide_eq_true (by omega), decide_eq_true (by omega)⟩, by omega⟩
theorem flatD_strs (xs : List Str) : (xs.map V.str).map flatD = xs.map PyData.str := by
  rw [List.map_map]
  rfl
/-! ### a list beside an empty one -/
def rEq0 (K : PySem.W.Frag) : R2 := fun x y H Q => ∃ (a b : Addr) (xs ys : List V), x = .ref a ∧ y = .ref b ∧ SqL K H a xs ∧ SqL K H b ys ∧ ys.length = 0 ∧ Q (.bl (decide (xs.length = 0))) H
def rNe0 (K : PySem.W.Frag) : R2 := fun x y H Q => ∃ (a b : Addr) (xs ys : List V), x = .ref a ∧ y = .ref b ∧ SqL K H a xs ∧ SqL K H b ys ∧ ys.length = 0 ∧ Q (.bl (!decide (xs.length = 0))) H
section
variable {X : Cx}
theorem op_eq0 (hu : X.A.units + 64 < cLine) : OpR X (compareOp .Eq) (rEq0 X.K) := by
  intro pins s σ H x y v u Q I rx ry h
  obtain ⟨a, b, xs, ys, rfl, rfl, ha, hb, hn, q⟩ := h
  cases (show v = Value.ref a from rx)
  cases (show u = Value.ref b from ry)
  obtain ⟨its, r1, e1, _⟩ := I.list ha
  obtain ⟨it2, r2, e2, _⟩ := I.list hb
  have l1 := r1.length
  have l2 := r2.length
  have z2 : it2 = [] := List.eq_nil_of_length_eq_zero (by omega)
  subst z2
  show wpAny _ _ (richCompare .Eq (.ref a) (.ref b)) _ _ _
  cases xs with
  | nil =>
    have z1 : its = [] := List.eq_nil_of_length_eq_zero l1.symm
    subst z1
    have q' : Q (.bl true) H := q
    exact SeqAt.RcAt.lists (e := fun _ => true) e1.isList e2.isList rfl (by omega) (fun j hj => absurd hj (by simp)) X.prog X.w X.xe _ ⟨.bl true, H, I, rfl, q'⟩
  | cons z zs =>
    have q' : Q (.bl false) H := q
    exact SeqAt.RcAt.lists_lengths e1.isList e2.isList (by simp at l1; simp; intro z; rw [z] at l1; simp at l1) (by omega) X.prog X.w X.xe _ ⟨.bl false, H, I, rfl, q'⟩
theorem op_ne0 (hu : X.A.units + 64 < cLine) : OpR X (compareOp .NotEq) (rNe0 X.K) := by
  intro pins s σ H x y v u Q I rx ry h
  obtain ⟨a, b, xs, ys, rfl, rfl, ha, hb, hn, q⟩ := h
  cases (show v = Value.ref a from rx)
  cases (show u = Value.ref b from ry)
  obtain ⟨its, r1, e1, _⟩ := I.list ha
  obtain ⟨it2, r2, e2, _⟩ := I.list hb
  have l1 := r1.length
  have l2 := r2.length
  have z2 : it2 = [] := List.eq_nil_of_length_eq_zero (by omega)
  subst z2
  show wpAny _ _ (richCompare .NotEq (.ref a) (.ref b)) _ _ _
  cases xs with
  | nil =>
    have z1 : its = [] := List.eq_nil_of_length_eq_zero l1.symm
    subst z1
    have q' : Q (.bl false) H := q
    exact SeqAt.RcNeAt.lists (e := fun _ => true) e1.isList e2.isList rfl (by omega) (fun j hj => absurd hj (by simp)) X.prog X.w X.xe _ ⟨.bl false, H, I, rfl, q'⟩
  | cons z zs =>
    have q' : Q (.bl true) H := q
    exact SeqAt.RcNeAt.lists_lengths e1.isList e2.isList (by simp at l1; simp; intro z; rw [z] at l1; simp at l1) (by omega) X.prog X.w X.xe _ ⟨.bl true, H, I, rfl, q'⟩
end
/-! ### an own + whose other side is anything -/
open PySem.W (Looks Frag findIn clsIn InstAt) in
theorem bin1_type {prog : Program} {w : World} {A : Around} {E : Value → Shared → Prop} {s : Shared} {K : PySem.W.Frag} {x C f : Addr} {ox : Obj} {od : Option Obj} {nm T : String} {b : Value} {Q : Option Value → Shared → Prop} (KX : K.In s.heap) (J : InstAt s.heap x ox C od) (hb : Looks (model prog w) s.heap (typeOf b) (.type T))
    (o : OwnT K C T nm) (hs : findIn K (.ref C) (PySem.dunder nm) = some (some (.ref f))) (hf : PySem.W.isFn K (.ref f) = true) (h : wpAny (model prog w) A (call (.ref f) [.ref x, b]) (PySem.W.CmpBack fun v => Q (some v)) E s) :
    wpAny (model prog w) A (binaryOp1 nm (.ref x) b) Q E s := by
  obtain ⟨cd, rest, hcd, hm⟩ := PySem.W.ksp_first o.sf
  obtain ⟨rc, r1, r2⟩ := o.r
  obtain ⟨fo, t1⟩ := o.t1
  obtain ⟨ro, t2⟩ := o.t2
  have try_ := PySem.W.ksp_try KX J hs hf h
  obtain ⟨hp, gg, dd, tt, os⟩ := s
  have k1 : Looks (model prog w) hp (typeOf (.ref x)) (.ref C) := J.type
  have k2 := hb
  have k3 : Looks (model prog w) hp (fillsNumberSlot (.ref C) nm) true := PySem.W.fills_K KX hcd hm hs
  have k4 := PySem.W.ksp_fillsT (M := model prog w) (nm := nm) KX t1 t2
  have k5 : Looks (model prog w) hp (isSubtype (.type T) (.ref C)) false := PySem.W.looks_subIn KX o.su
  have k6 : Looks (model prog w) hp (numberSlotInPython (.ref C) nm) true := PySem.W.ksp_inPy KX hs r1 r2
  have k7 : Looks (model prog w) hp (numberSlotInPython (.type T) nm) false := Looks.of_pure rfl
  have k8 : Looks (model prog w) hp (typeLookup (.type T) (dunderR nm)) ro := PySem.W.looks_findIn KX t2
  generalize ((fo.isSome && !isSeqSlot fo) || (ro.isSome && !isSeqSlot ro)) = rt at k4
  have dif : (Value.ref C == Value.type T) = false := Bool.eq_false_iff.mpr fun q => by cases beq_iff_eq.mp q
  unfold binaryOp1
  refine wpAny_bind (k1.at (wpAny_bind (k2.at (wpAny_bind (k3.at ?_)))))
  simp only [dif, Bool.false_eq_true, if_false]
  cases rt
  · ksp_lk
    refine wpAny_mono try_ (fun r s' ⟨v, er, hq⟩ => ?_) fun _ _ e => e
    subst er
    ksp_lk
    exact hq
  · ksp_lk
    refine wpAny_mono try_ (fun r s' ⟨v, er, hq⟩ => ?_) fun _ _ e => e
    subst er
    ksp_lk
    exact hq
open PySem.W (Looks Frag findIn clsIn InstAt) in
theorem binop_type {prog : Program} {w : World} {A : Around} {E : Value → Shared → Prop} {s : Shared} {K : PySem.W.Frag} {x C f : Addr} {ox : Obj} {od : Option Obj} {T : String} {b : Value} {Q : Value → Shared → Prop} (KX : K.In s.heap) (J : InstAt s.heap x ox C od) (hb : Looks (model prog w) s.heap (typeOf b) (.type T))
    (o : OwnT K C T "add") (hs : findIn K (.ref C) "__add__" = some (some (.ref f))) (hf : PySem.W.isFn K (.ref f) = true) (h : wpAny (model prog w) A (call (.ref f) [.ref x, b]) (PySem.W.CmpBack Q) E s) : wpAny (model prog w) A (binaryOp .Add (.ref x) b) Q E s := by
  unfold binaryOp
  refine wpAny_holding (wpAny_bind (bin1_type (nm := "add") KX J hb o (by rw [du_add]; exact hs) hf (wpAny_mono h (fun v s' z => ?_) fun _ _ e => e)))
  cases v <;> first | exact z.elim | exact wpAny_pure z
/-- x + y by the def at g, y of the same class, of one without the operator, or of a built-in type -/
def rOpAny (K : PySem.W.Frag) (C : Addr) (nm : String) (sp : Sp) (E : XK) : R2 := fun x y H Q => ∃ (a dx : Addr) (fs : List (Str × V)) (t : Value), x = .ref a ∧ H a = some (.ins C dx fs) ∧ TyX K H y t ∧ (t = .ref C ∨ (∃ D, t = .ref D ∧ NoOp K D nm) ∨ ∃ T, t = .type T ∧ OwnT K C T nm) ∧ sp [x, y] H Q E
section
variable {X : Cx} {CX : CXT} {C g : Addr} {n k j : Nat} {sp : Sp} {E : XK}
theorem op_addAny (hc : PySem.W.selfFirst X.K C = true) (hs : PySem.W.findIn X.K (.ref C) "__add__" = some (some (.ref g))) (hf : PySem.W.isFn X.K (.ref g) = true) (F : FnR X.prog X.w X.K X.mg X.base CX n g sp) (hr : Room n X.A) (hx : Passes CX X E) :
    OpR X (binaryOp .Add) (rOpAny X.K C "add" sp E) := by
  intro pins s σ H x y v u Q I rx ry h
  obtain ⟨a, dx, fs, t, rfl, ha, ty, hn, q⟩ := h
  rcases hn with hn | hn | ⟨T, rfl, o⟩
  · exact op_addO hc hs hf F hr hx pins s σ H (.ref a) y v u Q I rx ry ⟨a, dx, fs, t, rfl, ha, ty, .inl hn, q⟩
  · exact op_addO hc hs hf F hr hx pins s σ H (.ref a) y v u Q I rx ry ⟨a, dx, fs, t, rfl, ha, ty, .inr hn, q⟩
  cases (show v = Value.ref a from rx)
  obtain ⟨mA, O, _⟩ := ins_get I.hok ha
  obtain ⟨od, J, _⟩ := O.look
  obtain ⟨Pk, Z, pk, _⟩ := kit_of I ry ty
  refine binop_type I.kIn J (Z.ty _ _ I.kIn pk) o hs hf ?_
  refine wpAny_mono (wpAny_call (run_fnR (us := [.ref a, u]) (vs := [.ref a, y]) F hr hx I (.cons rfl (.cons ry .nil)) q)) (fun r s' z => ?_) fun _ _ e => e
  obtain ⟨z', H', I', rz, qz⟩ := z
  exact SlX.cmpback rz ⟨z', H', I', rz, qz⟩
theorem op_addSAE (c : CalSE X.prog X.w X.K X.mg X.base k C "__add__" sp) (px : Passes (L2.CX X.prog X.w) X E) (hc : PySem.W.selfFirst X.K C = true) (hr : Room j X.A) (hk : k ≤ j) : OpR X (binaryOp .Add) (rOpAny X.K C "add" sp E) := by
  obtain ⟨f, F, h1, h2⟩ := c
  exact op_addAny hc h1 h2 F (hr.mono hk) px
end
/-! ### a lambda handed to a def that says repr -/
def CalLG (P : Program) (w : World) (K : PySem.W.Frag) (mg : Str → Option Value) (base : Heap) (n : Nat) (x a : Str) (TT : (XK → Hp → VK → Prop) → Hp → VK → Prop) : Prop :=
  ∃ (g : Addr) (oc : Value) (od : Option Addr) (pg : Arguments) (bg : List Stmt) (sg : Scope) (dV kV doc pm cdv ct : Value) (an : Option Addr) (osl : Array (Option Value)) (Ng : List Str),
    mg x = some (.ref g) ∧ PySem.W.keepIn K (.ref g) = true ∧ K.lookup g = some ⟨oc, od, .func (PySem.W.fnOf x x pg bg sg dV kV doc pm an cdv ct), osl⟩ ∧ PySem.W.codeIn K cdv x = true ∧ Binds K (PySem.W.fnOf x x pg bg sg dV kV doc pm an cdv ct) [a] [] ∧ FnScope Ng [a] sg ∧ Ng[0]? = some a ∧ Vis sg a ∧
    ∀ (X : Cx) (q : Str), X.prog = P → X.w = w → X.K = K → X.mg = mg → X.base = base → X.A.guards = some [] → GivesS n X Ng x sg g cdv bg a q TT
section
variable {X : Cx} {n j : Nat} {x a : Str} {T : List (Addr × Str)} {TT : (XK → Hp → VK → Prop) → Hp → VK → Prop} {c P : Addr} {params : Arguments} {body : Expr} {scope : Scope} {t : XK → TE} {p lpos pos : Pos}
theorem pe_lamG (hgd : X.A.guards = some []) (cl : CalLG X.prog X.w X.K X.mg X.base n x a TT) (hg : Gl X x) (TB : TabB X.base X.mg c P) (hcode : X.env.code = .ref c) (hmT : (P, X.env.qual ++ "<lambda>") ∈ T) (hu : ∀ p ∈ T, p.1 = P → p.2 = X.env.qual ++ "<lambda>") (hr : Room j X.A) (hn : n ≤ j) (hj : 2 ≤ j)
    (L : LamS X.env.scope scope) (hdef : defaultsOf params X.env = ([], [])) (hbind : ∀ (q : Str) (cl : List (Str × Addr)) (pm cv ctv : Value), bindArgs (PySem.W.kla_fn "<lambda>" q params body scope cl pm cv ctv) ⟨[], []⟩ = pure [])
    (hbody : ∀ (A : Around) (outer : List Env) (s : Shared) (H : Hp) (E : XK) (f c' : Addr), Room (j - 2) (A.deeper (lamEnv X scope s.heap.objs.size f c')) → PE (lamCx X A outer s H E scope f c') body (t E))
    (hdb : (x == ("__debug__" : Str)) = false := by decide) (hd : (a == ("__debug__" : Str)) = false := by decide) (hcd : (a == ("__classdict__" : Str)) = false := by decide) :
    PE X (.Call (.Name x p) [.Lambda params body scope lpos] [] pos) (tLam T TT t) := by
  obtain ⟨g, oc, od, pg, bg, sg, dV, kV, doc, pm, cdv, ct, an, osl, Ng, hm, kp, lk, hcg, hb, Sg, hN, hv, hG⟩ := cl
  have hj2 : j - 2 + 2 = j := by omega
  exact pe_lamS (k := j - 2) hg hm kp lk hcg hb Sg hN hv (hG X _ rfl rfl rfl rfl rfl hgd) TB hcode hmT hu (by rw [hj2]; exact hr) (by omega) L hdef hbind hbody hdb hd hcd
end
/-! ### classes made of a star or of nothing, whose making may raise -/
section
variable {X : Cx} {k j : Nat} {C : Addr} {sp : Sp} {x : Str} {e : Expr} {te : TE} {p pos sp_ : Pos} {E : XK}
theorem pe_nR0E (c : MakRE X.prog X.w X.K X.mg X.base k x C sp) (px : Passes (L2.CX X.prog X.w) X E) (hr : Room j X.A) (hk : k + 1 ≤ j) (hg : Gl X x) (hdb : (x == ("__debug__" : Str)) = false := by decide) : PE X (.Call (.Name x p) [] [] pos) (StX.tMakeR C sp E tNil) := by
  obtain ⟨f, F, M, g⟩ := c
  exact ⟨fun pins s σ H Q I h => wpAny_Call_Name_kw (ld_glob I hg g (PySem.W.callWith_K0 I.kIn M.kp (StX.run_makeR (us := []) M F (hr.mono hk) px I .nil h)) hdb)⟩
theorem pe_nRSE (c : MakRE X.prog X.w X.K X.mg X.base k x C sp) (px : Passes (L2.CX X.prog X.w) X E) (hr : Room j X.A) (hk : k + 1 ≤ j) (hg : Gl X x) (he : PE X e te) (hd : (x == ("__debug__" : Str)) = false := by decide)
    (hst : starEach [.Starred e sp_] X.env = [(true, eval e X.env)] := by rfl) : PE X (.Call (.Name x p) [.Starred e sp_] [] pos) (tMakeS X.K C sp E te) := by
  obtain ⟨f, F, M, g⟩ := c
  refine ⟨fun pins s σ H Q I h => wpAny_Call_Name_kw (ld_glob I hg g (PySem.W.callWith_S (h₀ := X.base) I.ok.mod.kin M.kp (thn (he.run pins s σ H _ I h) fun v s1 ⟨y, H1, I1, ry, a, xs, ey, hxs, q⟩ => ?_) hst) hd)⟩
  subst ey
  obtain rfl : v = Value.ref a := ry
  exact StX.star_any I1 hxs fun us s2 I2 rv => ⟨I2.kIn, StX.run_makeR M F (hr.mono hk) px I2 rv q⟩
end
/-- a list walked within a try: what it reads may not name the try's own context -/
theorem pi_listK {X : Cx} {K' : PySem.W.Frag} {l tg : Expr} {tl : TE} (q : X.K = K') (hl : PE X l tl) : PI X tg l (iList K' tl) := q ▸ pi_list hl
/-- two tables -/
theorem two_1 {P1 P2 : Addr} {q1 q2 : Str} (ne : P1 ≠ P2) : ∀ p ∈ [(P1, q1), (P2, q2)], p.1 = P1 → p.2 = q1 := fun p hp e => by
  simp only [List.mem_cons, List.not_mem_nil, or_false] at hp
  rcases hp with rfl | rfl
  · rfl
  · exact absurd e.symm ne
theorem two_2 {P1 P2 : Addr} {q1 q2 : Str} (ne : P1 ≠ P2) : ∀ p ∈ [(P1, q1), (P2, q2)], p.1 = P2 → p.2 = q2 := fun p hp e => by
  simp only [List.mem_cons, List.not_mem_nil, or_false] at hp
  rcases hp with rfl | rfl
  · exact absurd e ne
  · rfl
/-- the first place where b says yes -/
theorem find_at {n i : Nat} {b : Nat → Bool} (h : b i = true) (hi : i < n) (no : ∀ j, j < i → b j = false) : (List.range n).find? b = some i := by
  rw [List.find?_range_eq_some]
  exact ⟨h, List.mem_range.mpr hi, fun j hj => by simp [no j hj]⟩
theorem find_none {n : Nat} {b : Nat → Bool} (no : ∀ j, j < n → b j = false) : (List.range n).find? b = none := by
  rw [List.find?_eq_none]
  intro j hj
  simp [no j (List.mem_range.mp hj)]
end UL
set_option Elab.async false
set_option linter.all false
set_option maxRecDepth 100000
set_option maxHeartbeats 4000000
namespace UL
open PySem PySem.Spec PyProof.Rows L2
section
variable {J : It} {n : Nat} {G : Hp → Prop} {Y : Nat → Hp → V → Hp → Prop} {g : TG} {tt : TT} {te : TE} {vs : List Nat} {σ : L2.St} {H1 : Hp} {D : Addr} {Qd : Hp → Prop}
/-- the elements tell R, which may speak of lists other than the row itself; a pot may change -/
theorem lc_stayD (w : Walk J n G Y) {p : Addr} (hD : H1 D = none) (hp : Pot H1 p) (R : Nat → V → Hp → Prop)
    (mono : ∀ i v H H', R i v H → (∃ xs, H D = some (.lst xs)) → Pot H p → (∀ b o, b ≠ p → b ≠ D → H b = some o → H' b = some o) → R i v H') (hn : n ≤ 16000000) (hG : ∀ H, Stay p H1 H → Pot H p → G H)
    (hs : ∀ i x H H', i < n → Stay p H1 H → Pot H p → (∃ xs, H D = some (.lst xs)) → Y i H x H' → ∀ Z : V → Hp → Prop, (∀ y H4, R i y H4 → Stay p H H4 → Pot H4 p → Z y H4) → g x (wipe σ vs) H' fun σ2 H2 => wipe σ2 vs = wipe σ vs ∧ te σ2 H2 Z)
    (hd : ∀ H ys, ys.length = n → (∀ i y, ys[i]? = some y → R i y H) → Stay p H1 H → Pot H p → H D = some (.lst ys) → Qd H) : LcW J g tYes te vs σ H1 D Qd := by
  obtain ⟨a0, b0, e0, _⟩ := id hp
  have np : D ≠ p := (ne_of_none e0 hD).symm
  refine lc_it w (fun i H => ∃ ys : List V, H D = some (.lst ys) ∧ ys.length = i ∧ Stay p H1 H ∧ Pot H p ∧ ∀ j y, ys[j]? = some y → R j y H) ⟨[], upd_same, rfl, Same.stay (same_new hD) p, hp.same (same_new hD), fun j y z => by simp at z⟩
    (fun i H _ ⟨_, _, _, s, q, _⟩ => hG H s q) (fun i x H H' hi ⟨ys, d, l, s, q, r⟩ y => ?_) fun H ⟨ys, d, l, s, q, r⟩ => hd H ys l r s q d
  refine hs i x H H' hi s q ⟨_, d⟩ y _ fun y H4 ry s4 q4 => ?_
  have d4 : H4 D = some (.lst ys) := s4 _ _ np d
  have go : ∀ (b : Addr) (o : HO), b ≠ p → b ≠ D → H4 b = some o → upd H4 D (.lst (ys ++ [y])) b = some o := fun b o _ n e => (upd_ne n).trans e
  refine ⟨ys, d4, line_gt (by omega), ys ++ [y], upd_same, by rw [List.length_append, l]; rfl, fun b o n e => ?_, ?_, fun j z hz => ?_⟩
  · rw [upd_ne (ne_of_none e hD)]
    exact s4 _ _ n (s _ _ n e)
  · obtain ⟨a4, b4, e4, r4⟩ := q4
    exact ⟨a4, b4, (upd_ne np.symm).trans e4, r4⟩
  · by_cases c : j < ys.length
    · rw [List.getElem?_append_left c] at hz
      exact mono j z H4 _ (mono j z H H4 (r j z hz) ⟨_, d⟩ q fun b o n1 _ e => s4 b o n1 e) ⟨_, d4⟩ q4 go
    · have hb := (List.getElem?_eq_some_iff.mp hz).1
      rw [List.length_append, List.length_singleton] at hb
      have ej : j = ys.length := by omega
      rw [ej, List.getElem?_concat_length] at hz
      cases hz
      rw [show j = i by omega]
      exact mono _ _ H4 _ ry ⟨_, d4⟩ q4 go
end
end UL
set_option Elab.async false
set_option linter.all false
set_option maxRecDepth 100000
set_option maxHeartbeats 4000000

local macro_rules | `(tactic| walk_at "look") => `(tactic| first
  | assumption
  | exact L2.upd_same
  | (with_reducible apply UL.new_look (by assumption)
     walk_at "look")
  | (with_reducible apply UL.Same.look (by assumption)
     walk_at "look")
  | (with_reducible apply UL.Stay.lookT (by assumption) (by walk_at "pot")
     walk_at "look")
  | (with_reducible apply UL.Stay.lookI (by assumption) (by walk_at "pot")
     walk_at "look")
  | (with_reducible apply UL.Stay.lookN (by assumption)
     · walk_at "ne"
     walk_at "look")
  | (with_reducible apply UL.over_look
     · walk_at "ne"
     walk_at "look")
  | (with_reducible apply UL.over_look2
     · walk_at "look"
     · walk_at "look"
     · intro z_; cases z_)
  | fail)
local macro_rules | `(tactic| walk_at "ne") => `(tactic| first
  | assumption
  | (refine Ne.symm ?_; assumption)
  | exact UL.ne_pot (by assumption) (by walk_at "pot")
  | exact Ne.symm (UL.ne_pot (by assumption) (by walk_at "pot"))
  | exact UL.ne_new (by assumption) (by walk_at "look")
  | exact Ne.symm (UL.ne_new (by assumption) (by walk_at "look"))
  | fail)
local macro_rules | `(tactic| walk_at "pot") => `(tactic| first
  | assumption
  | (with_reducible refine UL.Pot.same (H := _) ?_ (UL.same_new (by assumption)); walk_at "pot")
  | (with_reducible refine UL.Pot.same (H := _) ?_ (by assumption); walk_at "pot")
  | fail)
local macro_rules | `(tactic| walk_at "same") => `(tactic| first
  | assumption
  | exact L2.Same.refl _
  | exact UL.same_new (by assumption)
  | (with_reducible refine L2.Same.trans ?_ (UL.same_new (by assumption)); walk_at "same")
  | (with_reducible refine L2.Same.trans ?_ (by assumption); walk_at "same")
  | fail)
local macro_rules | `(tactic| walk_at "stay") => `(tactic| first
  | assumption
  | exact UL.Stay.refl _ _
  | exact UL.stay_upd
  | exact UL.Same.stay (by walk_at "same") _
  | (with_reducible refine UL.Stay.trans ?_ (UL.Same.stay (UL.same_new (by assumption)) _); walk_at "stay")
  | (with_reducible refine UL.Stay.trans ?_ (UL.Same.stay (by assumption) _); walk_at "stay")
  | (with_reducible refine UL.Stay.trans ?_ (by assumption); walk_at "stay")
  | (with_reducible refine UL.Stay.trans ?_ UL.stay_upd; walk_at "stay")
  | fail)
local macro_rules | `(tactic| walk_at "side") => `(tactic| first
  | ((with_reducible show (_ : Int) < _); omega)
  | assumption
  | rfl
  | ((with_reducible show _ ≠ _); walk_at "ne")
  | ((with_reducible show ∃ _, _ = _); exact ⟨_, rfl⟩)
  | ((with_reducible show L2.SqL _ _ _ _); exact L2.SqL.of (by walk_at "look"))
  | ((with_reducible show L2.SqT _ _ _ _); exact L2.SqT.of (by walk_at "look"))
  | ((with_reducible show _ = some _); walk_at "look")
  | ((with_reducible show L2.atI _ _ = _); first | exact L2.atI_nat rfl | exact L2.atI_nat (j := 0) rfl | exact L2.atI_nat (j := 1) rfl | exact L2.atI_nat (j := 2) rfl | exact L2.atI_nat (j := 3) rfl | exact L2.atI_nat (j := 4) rfl | fail)
  | ((with_reducible show UL.Pot _ _); walk_at "pot")
  | ((with_reducible show L2.Same _ _); walk_at "same")
  | ((with_reducible show UL.Stay _ _ _); walk_at "stay")
  | ((with_reducible show L2.CMul _ _); unfold L2.CMul; omega)
  | ((with_reducible show L2.CDiv _ _); unfold L2.CDiv; omega)
  | ((with_reducible show _ < 1000); exact of_decide_eq_true rfl)
  | ((with_reducible show _ ≤ PySem.sizeLine); refine UL.line_ge ?_; first | (simp; done) | (simp; omega) | fail)
  | ((with_reducible show _ < PySem.sizeLine); refine UL.line_gt ?_; first | (simp; done) | (simp; omega) | fail)
  | ((with_reducible show _ < List.length _); first | (simp; done) | (simp; omega) | fail)
  | ((with_reducible show List.length _ < _); first | (simp; done) | (simp; omega) | fail)
  | ((with_reducible show List.all _ _ = true); first | exact UL.flat_strs _ | exact UL.flat_ints _ | (simp [L2.flatV]; done) | fail)
  | (intro z_; cases z_; done)
  | walk_at "txt"
  | ((with_reducible show L2.tyV _ _ _ _); apply UL.ty_lst; walk_at "look")
  | exact L2.ClsV.own _
  | exact L2.ClsV.ty _
  | ((with_reducible show L2.TyX _ _ _ _); first | exact L2.TyX.base (L2.TyOf.int _) | exact L2.TyX.base (L2.TyOf.str _))
  | ((with_reducible show PySem.W.kitOne _ _ _ = _); first | exact UL.kit_own | exact L2.kit_ty (by decide +kernel) | fail)
  | omega
  | decide
  | ((with_reducible show _ ∨ _); first | exact Or.inl (by walk_at "side") | exact Or.inr (by walk_at "side"))
  | ((with_reducible show _ ∧ _); exact And.intro (by walk_at "side") (by walk_at "side"))
  | fail)
local macro_rules | `(tactic| walk_at "st4") => `(tactic| first
  | (apply And.intro; · walk_at "side"
     walk_at "st3")
  | fail)
local macro_rules | `(tactic| walk_at "st3") => `(tactic| first
  | (apply And.intro; · walk_at "side"
     walk_at "st3")
  | (apply Or.inl; walk_at "st4")
  | (apply Or.inr; walk_at "st4")
  | skip)
local macro_rules | `(tactic| walk_at "st2") => `(tactic| first
  | (apply Exists.intro; walk_at "st2")
  | (apply And.intro; · walk_at "side"
     walk_at "st3")
  | fail)
local macro_rules | `(tactic| walk_at "cond") => `(tactic| first
  | rfl
  | assumption
  | (rw [Bool.not_eq_false']; assumption)
  | (rw [Bool.not_eq_true']; assumption)
  | (simp only [decide_eq_false_iff_not, decide_eq_true_iff, L2.V.int.injEq, Bool.not_eq_false', Bool.not_eq_true']; omega)
  | (simp; done)
  | (simp; omega)
  | (simp [*]; done)
  | (simp [*]; omega)
  | fail)
local macro_rules | `(tactic| walk_at "st") => `(tactic| first
  | (apply Exists.intro; walk_at "st2"; all_goals (change (_ : Prop)))
  | (refine L2.iteT ?_)
  | (refine L2.iteF ?_)
  | (apply And.intro; · walk_at "side"
     walk_at "st3"; all_goals (change (_ : Prop)))
  | (intro _ _; change (_ : Prop))
  | (intro _; change (_ : Prop))
  | (refine UL.iteFo' ?hc_ ?_; · walk_at "cond")
  | (refine UL.iteTo' ?hc_ ?_; · walk_at "cond")
  | (apply Or.inl; walk_at "st")
  | (apply Or.inr; walk_at "st")
  | fail)
local macro_rules | `(tactic| walk_at "go") => `(tactic| repeat walk_at "st")
local macro_rules | `(tactic| walk_at "unk") => `(tactic| first
  | (simp only [UL.blk_K, UL.nox_K, UL.cxOf_K]; done)
  | (simp only [UL.blk_K, UL.nox_K, UL.cxOf_K]; rfl)
  | rfl
  | fail)
local macro_rules | `(tactic| walk_at "side") => `(tactic| ((with_reducible show _ ≤ PySem.sizeLine); refine UL.line_ge ?_; omega))
local macro_rules | `(tactic| walk_at "side") => `(tactic| ((with_reducible show _ < PySem.sizeLine); refine UL.line_gt ?_; omega))
local macro_rules | `(tactic| walk_at "side") => `(tactic| first
  | ((with_reducible show L2.SqT _ _ _ _); exact UL.SqT.frz (by walk_at "look"))
  | ((with_reducible show UL.TupO _); assumption)
  | fail)

namespace K25
open PySem L2 UL ClX
def top (i : Nat) : Stmt := PySem.Challenge.pw_unlikecalls_k25_books_refused.main.body.getD i (.Pass ⟨0, 0, 0, 0⟩)
structure Bi (mg : Str → Option Value) : Prop where
  ArithmeticError : mg "ArithmeticError" = none
  LookupError : mg "LookupError" = none
  ValueError : mg "ValueError" = none
  abs : mg "abs" = none
  all : mg "all" = none
  bool : mg "bool" = none
  divmod : mg "divmod" = none
  enumerate : mg "enumerate" = none
  int : mg "int" = none
  isinstance : mg "isinstance" = none
  len : mg "len" = none
  list : mg "list" = none
  max : mg "max" = none
  min : mg "min" = none
  property : mg "property" = none
  range : mg "range" = none
  repr : mg "repr" = none
  str : mg "str" = none
  tuple : mg "tuple" = none
structure Ad where
  c_CallError : Addr
  c_InvalidName : Addr
  c_InvalidKind : Addr
  c_InvalidBook : Addr
  c_MissingError : Addr
  c_UnknownKind : Addr
  c_LimitError : Addr
  c_TooMany : Addr
  c_Kind : Addr
  c_Book : Addr
  a_GROUPS : Addr
  a_ALIGNMENTS : Addr
  a_SIZES : Addr
structure Txt (K : PySem.W.Frag) (mg : Str → Option Value) (ad : Ad) : Prop where
  bi : Bi mg
  v_LONGEST_NAME : ∃ u, mg "LONGEST_NAME" = some u ∧ RelV (.int 8) u
  v_NAME_LETTERS : ∃ u, mg "NAME_LETTERS" = some u ∧ RelV (.str "abcdefghijklmnopqrstuvwxyz") u
  v_GROUPS : mg "GROUPS" = some (.ref ad.a_GROUPS)
  t_GROUPS : ∀ H : Hp, SqT K H ad.a_GROUPS [.str "whole", .str "float"]
  v_ALIGNMENTS : mg "ALIGNMENTS" = some (.ref ad.a_ALIGNMENTS)
  t_ALIGNMENTS : ∀ H : Hp, SqT K H ad.a_ALIGNMENTS [.int 1, .int 2, .int 4, .int 8, .int 16]
  v_SIZES : mg "SIZES" = some (.ref ad.a_SIZES)
  t_SIZES : ∀ H : Hp, SqT K H ad.a_SIZES [.int 1, .int 2, .int 4, .int 8, .int 16]
  v_DOUBLE_SIZE : ∃ u, mg "DOUBLE_SIZE" = some u ∧ RelV (.int 16) u
  v_LEAST_WIDTH : ∃ u, mg "LEAST_WIDTH" = some u ∧ RelV (.int 2) u
  v_LEAST_DOUBLE_WIDTH : ∃ u, mg "LEAST_DOUBLE_WIDTH" = some u ∧ RelV (.int 65) u
  v_MOST_KINDS : ∃ u, mg "MOST_KINDS" = some u ∧ RelV (.int 5) u
  g_Kind : mg "Kind" = some (.ref ad.c_Kind)
  i_Kind : CIsi K ad.c_Kind
  no_Kind : NoOp K ad.c_Kind "add"
  ne_Kind : PySem.W.findIn K (.ref ad.c_Kind) "__ne__" = some (some (.builtin "object.__ne__"))
  n_Kind_name : NoAttr K ad.c_Kind "_name"
  n_Kind_group : NoAttr K ad.c_Kind "_group"
  n_Kind_size : NoAttr K ad.c_Kind "_size"
  n_Kind_width : NoAttr K ad.c_Kind "_width"
  n_Kind_align : NoAttr K ad.c_Kind "_align"
  n_Kind_parts : NoAttr K ad.c_Kind "_parts"
  k_Kind : ∀ T ∈ (["NoneType", "tuple", "str", "int", "list", "bool", "dict"] : List String), PySem.W.kitOne K (.type T) (.ref ad.c_Kind) = some false ∧ PySem.W.notFirst K ad.c_Kind (.type T) = true
  g_Book : mg "Book" = some (.ref ad.c_Book)
  i_Book : CIsi K ad.c_Book
  sf_Book : PySem.W.selfFirst K ad.c_Book = true
  os_Book : OwnT K ad.c_Book "str" "add"
  oa_Book : ∀ T ∈ UL.T7, OwnT K ad.c_Book T "add"
  ne_Book : PySem.W.findIn K (.ref ad.c_Book) "__ne__" = some (some (.builtin "object.__ne__"))
  n_Book_kinds : NoAttr K ad.c_Book "_kinds"
  n_Book_names : NoAttr K ad.c_Book "_names"
  n_Book_parts : NoAttr K ad.c_Book "_parts"
  k_Book : ∀ T ∈ (["NoneType", "tuple", "str", "int", "list", "bool", "dict"] : List String), PySem.W.kitOne K (.type T) (.ref ad.c_Book) = some false ∧ PySem.W.notFirst K ad.c_Book (.type T) = true
  g_CallError : mg "CallError" = some (.ref ad.c_CallError)
  x_CallError : ExB K ad.c_CallError "ValueError" "ValueError.__new__" "ValueError.__init__" [.type "ValueError", .type "Exception", .type "BaseException", .type "object"]
  xf_CallError : XfC K ad.c_CallError
  xm_CallError_CallError : PySem.W.exmOne K (.ref ad.c_CallError) (.ref ad.c_CallError) = some true
  xm_CallError_LimitError : PySem.W.exmOne K (.ref ad.c_CallError) (.ref ad.c_LimitError) = some false
  xm_CallError_InvalidName : PySem.W.exmOne K (.ref ad.c_CallError) (.ref ad.c_InvalidName) = some false
  xm_CallError_InvalidKind : PySem.W.exmOne K (.ref ad.c_CallError) (.ref ad.c_InvalidKind) = some false
  xm_CallError_InvalidBook : PySem.W.exmOne K (.ref ad.c_CallError) (.ref ad.c_InvalidBook) = some false
  xm_CallError_TooMany : PySem.W.exmOne K (.ref ad.c_CallError) (.ref ad.c_TooMany) = some false
  xb_CallError : PySem.W.kitCls K (.ref ad.c_CallError) (.type "ValueError") = some true
  g_LimitError : mg "LimitError" = some (.ref ad.c_LimitError)
  x_LimitError : ExB K ad.c_LimitError "ArithmeticError" "ArithmeticError.__new__" "ArithmeticError.__init__" [.type "ArithmeticError", .type "Exception", .type "BaseException", .type "object"]
  xf_LimitError : XfC K ad.c_LimitError
  xm_LimitError_CallError : PySem.W.exmOne K (.ref ad.c_LimitError) (.ref ad.c_CallError) = some false
  xm_LimitError_LimitError : PySem.W.exmOne K (.ref ad.c_LimitError) (.ref ad.c_LimitError) = some true
  xm_LimitError_InvalidName : PySem.W.exmOne K (.ref ad.c_LimitError) (.ref ad.c_InvalidName) = some false
  xm_LimitError_InvalidKind : PySem.W.exmOne K (.ref ad.c_LimitError) (.ref ad.c_InvalidKind) = some false
  xm_LimitError_InvalidBook : PySem.W.exmOne K (.ref ad.c_LimitError) (.ref ad.c_InvalidBook) = some false
  xm_LimitError_TooMany : PySem.W.exmOne K (.ref ad.c_LimitError) (.ref ad.c_TooMany) = some false
  xb_LimitError : PySem.W.kitCls K (.ref ad.c_LimitError) (.type "ArithmeticError") = some true
  g_InvalidName : mg "InvalidName" = some (.ref ad.c_InvalidName)
  x_InvalidName : ExB K ad.c_InvalidName "ValueError" "ValueError.__new__" "ValueError.__init__" [.type "ValueError", .type "Exception", .type "BaseException", .type "object"]
  xf_InvalidName : XfC K ad.c_InvalidName
  xn_InvalidName_value : PySem.W.findIn K (.ref ad.c_InvalidName) "value" = some none
  xm_InvalidName_CallError : PySem.W.exmOne K (.ref ad.c_InvalidName) (.ref ad.c_CallError) = some true
  xm_InvalidName_LimitError : PySem.W.exmOne K (.ref ad.c_InvalidName) (.ref ad.c_LimitError) = some false
  xm_InvalidName_InvalidName : PySem.W.exmOne K (.ref ad.c_InvalidName) (.ref ad.c_InvalidName) = some true
  xm_InvalidName_InvalidKind : PySem.W.exmOne K (.ref ad.c_InvalidName) (.ref ad.c_InvalidKind) = some false
  xm_InvalidName_InvalidBook : PySem.W.exmOne K (.ref ad.c_InvalidName) (.ref ad.c_InvalidBook) = some false
  xm_InvalidName_TooMany : PySem.W.exmOne K (.ref ad.c_InvalidName) (.ref ad.c_TooMany) = some false
  xs_InvalidName_CallError : PySem.W.kitCls K (.ref ad.c_InvalidName) (.ref ad.c_CallError) = some true ∧ ((Value.ref ad.c_InvalidName == Value.ref ad.c_CallError) = false)
  xb_InvalidName : PySem.W.kitCls K (.ref ad.c_InvalidName) (.type "ValueError") = some true
  g_InvalidKind : mg "InvalidKind" = some (.ref ad.c_InvalidKind)
  x_InvalidKind : ExB K ad.c_InvalidKind "ValueError" "ValueError.__new__" "ValueError.__init__" [.type "ValueError", .type "Exception", .type "BaseException", .type "object"]
  xf_InvalidKind : XfC K ad.c_InvalidKind
  xn_InvalidKind_value : PySem.W.findIn K (.ref ad.c_InvalidKind) "value" = some none
  xm_InvalidKind_CallError : PySem.W.exmOne K (.ref ad.c_InvalidKind) (.ref ad.c_CallError) = some true
  xm_InvalidKind_LimitError : PySem.W.exmOne K (.ref ad.c_InvalidKind) (.ref ad.c_LimitError) = some false
  xm_InvalidKind_InvalidName : PySem.W.exmOne K (.ref ad.c_InvalidKind) (.ref ad.c_InvalidName) = some false
  xm_InvalidKind_InvalidKind : PySem.W.exmOne K (.ref ad.c_InvalidKind) (.ref ad.c_InvalidKind) = some true
  xm_InvalidKind_InvalidBook : PySem.W.exmOne K (.ref ad.c_InvalidKind) (.ref ad.c_InvalidBook) = some false
  xm_InvalidKind_TooMany : PySem.W.exmOne K (.ref ad.c_InvalidKind) (.ref ad.c_TooMany) = some false
  xs_InvalidKind_CallError : PySem.W.kitCls K (.ref ad.c_InvalidKind) (.ref ad.c_CallError) = some true ∧ ((Value.ref ad.c_InvalidKind == Value.ref ad.c_CallError) = false)
  xb_InvalidKind : PySem.W.kitCls K (.ref ad.c_InvalidKind) (.type "ValueError") = some true
  g_InvalidBook : mg "InvalidBook" = some (.ref ad.c_InvalidBook)
  x_InvalidBook : ExB K ad.c_InvalidBook "ValueError" "ValueError.__new__" "ValueError.__init__" [.type "ValueError", .type "Exception", .type "BaseException", .type "object"]
  xf_InvalidBook : XfC K ad.c_InvalidBook
  xn_InvalidBook_value : PySem.W.findIn K (.ref ad.c_InvalidBook) "value" = some none
  xm_InvalidBook_CallError : PySem.W.exmOne K (.ref ad.c_InvalidBook) (.ref ad.c_CallError) = some true
  xm_InvalidBook_LimitError : PySem.W.exmOne K (.ref ad.c_InvalidBook) (.ref ad.c_LimitError) = some false
  xm_InvalidBook_InvalidName : PySem.W.exmOne K (.ref ad.c_InvalidBook) (.ref ad.c_InvalidName) = some false
  xm_InvalidBook_InvalidKind : PySem.W.exmOne K (.ref ad.c_InvalidBook) (.ref ad.c_InvalidKind) = some false
  xm_InvalidBook_InvalidBook : PySem.W.exmOne K (.ref ad.c_InvalidBook) (.ref ad.c_InvalidBook) = some true
  xm_InvalidBook_TooMany : PySem.W.exmOne K (.ref ad.c_InvalidBook) (.ref ad.c_TooMany) = some false
  xs_InvalidBook_CallError : PySem.W.kitCls K (.ref ad.c_InvalidBook) (.ref ad.c_CallError) = some true ∧ ((Value.ref ad.c_InvalidBook == Value.ref ad.c_CallError) = false)
  xb_InvalidBook : PySem.W.kitCls K (.ref ad.c_InvalidBook) (.type "ValueError") = some true
  g_TooMany : mg "TooMany" = some (.ref ad.c_TooMany)
  x_TooMany : ExB K ad.c_TooMany "ArithmeticError" "ArithmeticError.__new__" "ArithmeticError.__init__" [.type "ArithmeticError", .type "Exception", .type "BaseException", .type "object"]
  xf_TooMany : XfC K ad.c_TooMany
  xn_TooMany_what : PySem.W.findIn K (.ref ad.c_TooMany) "what" = some none
  xn_TooMany_limit : PySem.W.findIn K (.ref ad.c_TooMany) "limit" = some none
  xm_TooMany_CallError : PySem.W.exmOne K (.ref ad.c_TooMany) (.ref ad.c_CallError) = some false
  xm_TooMany_LimitError : PySem.W.exmOne K (.ref ad.c_TooMany) (.ref ad.c_LimitError) = some true
  xm_TooMany_InvalidName : PySem.W.exmOne K (.ref ad.c_TooMany) (.ref ad.c_InvalidName) = some false
  xm_TooMany_InvalidKind : PySem.W.exmOne K (.ref ad.c_TooMany) (.ref ad.c_InvalidKind) = some false
  xm_TooMany_InvalidBook : PySem.W.exmOne K (.ref ad.c_TooMany) (.ref ad.c_InvalidBook) = some false
  xm_TooMany_TooMany : PySem.W.exmOne K (.ref ad.c_TooMany) (.ref ad.c_TooMany) = some true
  xs_TooMany_LimitError : PySem.W.kitCls K (.ref ad.c_TooMany) (.ref ad.c_LimitError) = some true ∧ ((Value.ref ad.c_TooMany == Value.ref ad.c_LimitError) = false)
  xb_TooMany : PySem.W.kitCls K (.ref ad.c_TooMany) (.type "ArithmeticError") = some true
local macro_rules | `(tactic| walk_at "txt") => `(tactic| first
  | ((with_reducible show L2.SqT _ _ _ _); first | exact Txt.t_GROUPS (by assumption) _ | exact Txt.t_ALIGNMENTS (by assumption) _ | exact Txt.t_SIZES (by assumption) _)
  | ((with_reducible show L2.Cls _ _); first | exact UL.CIsi.cl (Txt.i_Kind (by assumption)) | exact UL.CIsi.cl (Txt.i_Book (by assumption)))
  | ((with_reducible show UL.CIsi _ _); first | exact Txt.i_Kind (by assumption) | exact Txt.i_Book (by assumption))
  | ((with_reducible show L2.NoAttr _ _ _); first | exact Txt.n_Kind_name (by assumption) | exact Txt.n_Kind_group (by assumption) | exact Txt.n_Kind_size (by assumption) | exact Txt.n_Kind_width (by assumption) | exact Txt.n_Kind_align (by assumption) | exact Txt.n_Kind_parts (by assumption) | exact Txt.n_Book_kinds (by assumption) | exact Txt.n_Book_names (by assumption) | exact Txt.n_Book_parts (by assumption))
  | ((with_reducible show L2.TyX _ _ _ _); first | exact UL.CIsi.ty (Txt.i_Kind (by assumption)) (by walk_at "look") | exact UL.CIsi.ty (Txt.i_Book (by assumption)) (by walk_at "look"))
  | ((with_reducible show PySem.W.kitOne _ (.type _) (.ref _) = _); first | exact ((Txt.k_Kind (by assumption)) _ (by simp)).1 | exact ((Txt.k_Book (by assumption)) _ (by simp)).1)
  | ((with_reducible show _ = PySem.Value.ref _ ∨ _); first | exact .inl rfl | exact .inr ⟨_, rfl, Txt.no_Kind (by assumption)⟩)
  | fail)
theorem same_over {H H1 : Hp} {L : Addr} {o : HO} (s : L2.Same H H1) (hL : H L = none) : L2.Same H (upd H1 L o) := fun b u e => by
  rw [upd_ne (ne_of_none e hL)]
  exact s b u e
/-- a good name -/
def isNm (n : Str) : Prop := 1 ≤ n.length ∧ n.length ≤ 8 ∧ ∀ c ∈ n.cps.toList, c ∈ (("abcdefghijklmnopqrstuvwxyz" : Str)).cps.toList
section
variable {P : Program} {w : World} {K : PySem.W.Frag} {mg : Str → Option Value} {base : Heap} {ad : Ad}
def spIsInt : Sp := fun vs H Q _ => ∃ i : Int, vs = [.int i] ∧ Q (.bl true) H
def spCount : Sp := fun vs H Q _ => ∃ i : Int, vs = [.int i] ∧ 0 ≤ i ∧ Q (.bl true) H
def spBetw : Sp := fun vs H Q _ => ∃ i lo hi : Int, vs = [.int i, .int lo, .int hi] ∧ lo ≤ i ∧ i ≤ hi ∧ Q (.bl true) H
def spOneOf (K : PySem.W.Frag) : Sp := fun vs H Q _ => ∃ (i : Int) (a : Addr) (xs : List V), vs = [.int i, .ref a] ∧ SqT K H a xs ∧ xs.all flatV = true ∧ Q (.bl (inV (.int i) xs)) H
def spWordOf (K : PySem.W.Frag) : Sp := fun vs H Q _ => ∃ (x : Str) (a : Addr) (xs : List V), vs = [.str x, .ref a] ∧ (SqL K H a xs ∨ SqT K H a xs) ∧ xs.all flatV = true ∧ Q (.bl (inV (.str x) xs)) H
def spName : Sp := fun vs H Q _ => ∃ n : Str, vs = [.str n] ∧ isNm n ∧ ∀ H' : Hp, L2.Same H H' → Q (.bl true) H'
abbrev st_is_integer : Stmt := top 4
theorem sc_is_integer : FnScope ["value"] ["value"] (defScope st_is_integer) := ⟨rfl, rfl, rfl, by decide +kernel, rfl, by decide +kernel, by decide +kernel⟩
theorem ok_is_integer {f : Addr} {fd : FuncData} (F : Fun K "is_integer" "is_integer" st_is_integer f fd) (T : Txt K mg ad)  :
    FnOk P w K mg base CX0 1 f fd ["value"] spIsInt := by
  refine F.ok sc_is_integer (fun vs H Q E h => ?_) (fun cdv A outer s H vs Q E hr h => ?_)
  · obtain (⟨i, rfl, k⟩) := h
    rfl
  · obtain (⟨i, rfl, k⟩) := h
    refine ⟨_, pss_one (ps_ret (pe_and (pe_callB call_isi (by rfl) T.bi.isinstance (by decide +kernel) (pa_cons (pv 0) (pa_cons (pe_bltn (v := .ty "int") (by rfl) T.bi.int (by decide +kernel) rfl) pa_nil))) (pe_one (pe_not (pe_callB call_isi (by rfl) T.bi.isinstance (by decide +kernel) (pa_cons (pv 0) (pa_cons (pe_bltn (v := .ty "bool") (by rfl) T.bi.bool (by decide +kernel) rfl) pa_nil))))))), ?_⟩
    refine ⟨_, rfl, _, _, _, _, true, rfl, .ty "int", .base (.int i), kit_ty (by decide +kernel), _, rfl, iteT ?_⟩
    exact ⟨_, rfl, _, _, _, _, false, rfl, .ty "bool", .base (.int i), kit_ty (by decide +kernel), _, rfl, k⟩
abbrev st_is_between : Stmt := top 6
theorem sc_is_between : FnScope ["value", "least", "most"] ["value", "least", "most"] (defScope st_is_between) := ⟨rfl, rfl, rfl, by decide +kernel, rfl, by decide +kernel, by decide +kernel⟩
theorem ok_is_between {f : Addr} {fd : FuncData} (F : Fun K "is_between" "is_between" st_is_between f fd) (T : Txt K mg ad)  :
    FnOk P w K mg base CX0 1 f fd ["value", "least", "most"] spBetw := by
  refine F.ok sc_is_between (fun vs H Q E h => ?_) (fun cdv A outer s H vs Q E hr h => ?_)
  · obtain (⟨i, lo, hi, rfl, h0, h1, k⟩) := h
    rfl
  · obtain (⟨i, lo, hi, rfl, h0, h1, k⟩) := h
    refine ⟨_, pss_one (ps_ret (pe_and (pe_callB call_isi (by rfl) T.bi.isinstance (by decide +kernel) (pa_cons (pv 0) (pa_cons (pe_bltn (v := .ty "int") (by rfl) T.bi.int (by decide +kernel) rfl) pa_nil))) (pe_and (pe_not (pe_callB call_isi (by rfl) T.bi.isinstance (by decide +kernel) (pa_cons (pv 0) (pa_cons (pe_bltn (v := .ty "bool") (by rfl) T.bi.bool (by decide +kernel) rfl) pa_nil)))) (pe_one (pe_chain op_le op_le (pv 1) (pv 0) (pv 2)))))), ?_⟩
    refine ⟨_, rfl, _, _, _, _, true, rfl, .ty "int", .base (.int i), kit_ty (by decide +kernel), _, rfl, iteT ?_⟩
    refine ⟨_, rfl, _, _, _, _, false, rfl, .ty "bool", .base (.int i), kit_ty (by decide +kernel), _, rfl, _, rfl, iteT ?_⟩
    refine ⟨_, rfl, _, rfl, _, _, rfl, rfl, _, rfl, ?_⟩
    rw [decide_eq_true h0]
    refine iteT ⟨_, rfl, _, _, rfl, rfl, ?_⟩
    dsimp only
    rw [decide_eq_true h1]
    exact k
abbrev st_is_one_of : Stmt := top 7
theorem sc_is_one_of : FnScope ["value", "numbers"] ["value", "numbers"] (defScope st_is_one_of) := ⟨rfl, rfl, rfl, by decide +kernel, rfl, by decide +kernel, by decide +kernel⟩
theorem ok_is_one_of {f : Addr} {fd : FuncData} (F : Fun K "is_one_of" "is_one_of" st_is_one_of f fd) (T : Txt K mg ad) (c_is_integer : Cal P w K mg base 1 "is_integer" spIsInt) :
    FnOk P w K mg base CX0 2 f fd ["value", "numbers"] (spOneOf K) := by
  refine F.ok sc_is_one_of (fun vs H Q E h => ?_) (fun cdv A outer s H vs Q E hr h => ?_)
  · obtain (⟨i, a, xs, rfl, hS, hf, k⟩) := h
    rfl
  · obtain (⟨i, a, xs, rfl, hS, hf, k⟩) := h
    refine ⟨_, pss_one (ps_ret (pe_and (pe_c c_is_integer hr (by decide) (by rfl) (pa_cons (pv 0) pa_nil)) (pe_one (pe_cmpR op_in_seq (pv 0) (pv 1) (by rfl))))), ?_⟩
    exact ⟨_, rfl, i, rfl, _, rfl, iteT ⟨_, rfl, _, rfl, a, xs, rfl, .inr hS, rfl, hf, k⟩⟩
abbrev st_is_word_of : Stmt := top 8
theorem sc_is_word_of : FnScope ["value", "words"] ["value", "words"] (defScope st_is_word_of) := ⟨rfl, rfl, rfl, by decide +kernel, rfl, by decide +kernel, by decide +kernel⟩
theorem ok_is_word_of {f : Addr} {fd : FuncData} (F : Fun K "is_word_of" "is_word_of" st_is_word_of f fd) (T : Txt K mg ad)  :
    FnOk P w K mg base CX0 1 f fd ["value", "words"] (spWordOf K) := by
  refine F.ok sc_is_word_of (fun vs H Q E h => ?_) (fun cdv A outer s H vs Q E hr h => ?_)
  · obtain (⟨x, a, xs, rfl, hS, hf, k⟩) := h
    rfl
  · obtain (⟨x, a, xs, rfl, hS, hf, k⟩) := h
    refine ⟨_, pss_one (ps_ret (pe_and (pe_callB call_isi (by rfl) T.bi.isinstance (by decide +kernel) (pa_cons (pv 0) (pa_cons (pe_bltn (v := .ty "str") (by rfl) T.bi.str (by decide +kernel) rfl) pa_nil))) (pe_one (pe_cmpR op_in_seq (pv 0) (pv 1) (by rfl))))), ?_⟩
    refine ⟨_, rfl, _, _, _, _, true, rfl, .ty "str", .base (.str x), kit_ty (by decide +kernel), _, rfl, iteT ?_⟩
    exact ⟨_, rfl, _, rfl, a, xs, rfl, hS, rfl, hf, k⟩
abbrev st_is_name : Stmt := top 5
theorem sc_is_name : FnScope ["value", "letter"] ["value"] (defScope st_is_name) := ⟨rfl, rfl, rfl, by decide +kernel, rfl, by decide +kernel, by decide +kernel⟩
theorem ok_is_name {f : Addr} {fd : FuncData} (F : Fun K "is_name" "is_name" st_is_name f fd) (T : Txt K mg ad)  :
    FnOk P w K mg base CX0 1 f fd ["value"] spName := by
  refine F.ok sc_is_name (fun vs H Q E h => ?_) (fun cdv A outer s H vs Q E hr h => ?_)
  · obtain (⟨n, rfl, ⟨h1, h2, h3⟩, k⟩) := h
    rfl
  · obtain (⟨n, rfl, ⟨h1, h2, h3⟩, k⟩) := h
    refine ⟨_, pss_cons (ps_if (PW.pt (pw_or (pt_not (pt_val (pe_callB call_isi (by rfl) T.bi.isinstance (by decide +kernel) (pa_cons (pv 0) (pa_cons (pe_bltn (v := .ty "str") (by rfl) T.bi.str (by decide +kernel) rfl) pa_nil))))) (pw_or1 (pt_not (pt_chain op_le op_le pe_int (pe_callB call_len_str (by rfl) T.bi.len (by decide +kernel) (pa_cons (pv 0) pa_nil)) (pe_gl (by rfl) T.v_LONGEST_NAME)))))) (pss_one (ps_ret pe_bl)) pss_nil)
      (pss_one (ps_ret (pe_callB (cr_all rfl) (by rfl) T.bi.all (by decide +kernel) (pa_cons (pe_lc (own := [("letter", 1)]) (g := gName 1) (tt := tYes) rfl sc_is_name.nd (pi_str (pv 0)) (blkOk_by (N := ["value", "letter"]) (sc := defScope st_is_name) (by decide +kernel)) (fun _ _ _ _ _ => pg_name (i := 1) sc_is_name.nd rfl (Or.inl rfl)) (fun _ _ _ _ _ => pts_nil) (fun _ _ _ _ _ => UL.pe_conv (pe_cmpR op_in_sign (pv 1) (pe_gl (by rfl) T.v_NAME_LETTERS) (by rfl)) (by walk_at "unk"))) pa_nil)))), ?_⟩
    refine ⟨_, rfl, _, _, _, _, true, rfl, .ty "str", .base (.str n), kit_ty (by decide +kernel), _, rfl, iteF ⟨_, rfl, n, rfl, line_ge (by omega), 1, ((n.length : Nat) : Int), rfl, rfl, _, rfl, ?_⟩⟩
    rw [decide_eq_true (show (1 : Int) ≤ ((n.length : Nat) : Int) by omega)]
    refine iteT ⟨_, _, rfl, rfl, _, rfl, ?_⟩
    refine iteFo' (by simp; omega) ⟨_, rfl, n, rfl, fun D hD => ?_⟩
    have ml : n.cps.size = n.length := rfl
    refine lc_it walk_str (fun i H' => H' D = some (.lst ((List.replicate i true).map V.bl)) ∧ L2.Same H H') ⟨upd_same, same_new hD⟩ (fun _ _ _ _ => trivial) (fun i x H1 H2 hi ⟨d1, s1⟩ hy => ?_) (fun H1 ⟨d1, s1⟩ => ?_)
    · obtain ⟨rfl, c, hc, rfl⟩ := hy
      have hm : c ∈ n.cps.toList := by
        rw [← Array.getElem?_toList] at hc
        exact List.mem_of_getElem? hc
      refine ⟨rfl, _, rfl, c, _, rfl, rfl, ?_⟩
      rw [decide_eq_true (h3 c hm)]
      refine ⟨_, d1, line_gt (by rw [List.length_map, List.length_replicate]; omega), ?_, ?_⟩
      · rw [List.replicate_succ', List.map_append]
        exact upd_same
      · exact same_over s1 hD
    · refine ⟨D, _, rfl, SqL.of d1, ?_⟩
      have e : ((List.replicate n.cps.size true).all id) = true := by
        rw [List.all_eq_true]
        intro x hx
        rw [List.eq_of_mem_replicate hx]
        rfl
      rw [e]
      exact k H1 s1
end
end K25
set_option Elab.async false
set_option linter.all false
set_option maxRecDepth 100000
set_option maxHeartbeats 4000000


namespace K25
open PySem L2 UL ClX
local macro_rules | `(tactic| walk_at "txt") => `(tactic| first
  | ((with_reducible show L2.SqT _ _ _ _); first | exact Txt.t_GROUPS (by assumption) _ | exact Txt.t_ALIGNMENTS (by assumption) _ | exact Txt.t_SIZES (by assumption) _)
  | ((with_reducible show L2.Cls _ _); first | exact UL.CIsi.cl (Txt.i_Kind (by assumption)) | exact UL.CIsi.cl (Txt.i_Book (by assumption)))
  | ((with_reducible show UL.CIsi _ _); first | exact Txt.i_Kind (by assumption) | exact Txt.i_Book (by assumption))
  | ((with_reducible show L2.NoAttr _ _ _); first | exact Txt.n_Kind_name (by assumption) | exact Txt.n_Kind_group (by assumption) | exact Txt.n_Kind_size (by assumption) | exact Txt.n_Kind_width (by assumption) | exact Txt.n_Kind_align (by assumption) | exact Txt.n_Kind_parts (by assumption) | exact Txt.n_Book_kinds (by assumption) | exact Txt.n_Book_names (by assumption) | exact Txt.n_Book_parts (by assumption))
  | ((with_reducible show L2.TyX _ _ _ _); first | exact UL.CIsi.ty (Txt.i_Kind (by assumption)) (by walk_at "look") | exact UL.CIsi.ty (Txt.i_Book (by assumption)) (by walk_at "look"))
  | ((with_reducible show PySem.W.kitOne _ (.type _) (.ref _) = _); first | exact ((Txt.k_Kind (by assumption)) _ (by simp)).1 | exact ((Txt.k_Book (by assumption)) _ (by simp)).1)
  | ((with_reducible show _ = PySem.Value.ref _ ∨ _); first | exact .inl rfl | exact .inr ⟨_, rfl, Txt.no_Kind (by assumption)⟩)
  | fail)
/-- a kind's parts -/
structure KD where
  n : Str
  g : Str
  s : Int
  w : Int
  a : Int
  deriving DecidableEq
structure KD.ok (k : KD) : Prop where
  nm : isNm k.n
  gr : inV (.str k.g) [.str "whole", .str "float"] = true
  sz : inV (.int k.s) [.int 1, .int 2, .int 4, .int 8, .int 16] = true
  lo : (if k.s = 16 then 65 else 2) ≤ k.w
  hi : k.w ≤ 8 * k.s
  al : inV (.int k.a) [.int 1, .int 2, .int 4, .int 8, .int 16] = true
def kparts (k : KD) : List V := [.str k.n, .str k.g, .int k.s, .int k.w, .int k.a]
def kfs (k : KD) (p : Addr) : List (Str × V) := [("_name", .str k.n), ("_group", .str k.g), ("_size", .int k.s), ("_width", .int k.w), ("_align", .int k.a), ("_parts", .ref p)]
def KindAt (ad : Ad) (H : Hp) (v : V) (k : KD) : Prop := ∃ a dx p, v = .ref a ∧ H a = some (.ins ad.c_Kind dx (kfs k p)) ∧ H p = some (.tup (kparts k))
theorem KindAt.same {ad : Ad} {H H' : Hp} {v : V} {k : KD} (h : KindAt ad H v k) (s : L2.Same H H') : KindAt ad H' v k := by
  obtain ⟨a, dx, p, e, h1, h2⟩ := h
  exact ⟨a, dx, p, e, s _ _ h1, s _ _ h2⟩
theorem five_cases {n : Int} (h : inV (.int n) [.int 1, .int 2, .int 4, .int 8, .int 16] = true) : n = 1 ∨ n = 2 ∨ n = 4 ∨ n = 8 ∨ n = 16 := by
  simp [inV, eqV] at h
  omega
section
variable {P : Program} {w : World} {K : PySem.W.Frag} {mg : Str → Option Value} {base : Heap} {ad : Ad}
@[irreducible] def spKindI (ad : Ad) : Sp := fun vs H Q _ => ∃ (x dx : Addr) (k : KD) (wv av : V), vs = [.ref x, .str k.n, .str k.g, .int k.s, wv, av] ∧ k.ok ∧ (wv = .non ∧ k.w = 8 * k.s ∨ wv = .int k.w) ∧ (av = .non ∧ k.a = k.s ∨ av = .int k.a) ∧ H x = some (.ins ad.c_Kind dx []) ∧
  ∀ (p : Addr) (H' : Hp), H' p = some (.tup (kparts k)) → H' x = some (.ins ad.c_Kind dx (kfs k p)) → Stay x H H' → Q .non H'
abbrev st_Kind_init : Stmt := inClass (top 26) 0
theorem sc_Kind_init : FnScope ["self", "name", "group", "size", "width", "align", "least"] ["self", "name", "group", "size", "width", "align"] (defScope st_Kind_init) := ⟨rfl, rfl, rfl, by decide +kernel, rfl, by decide +kernel, by decide +kernel⟩
theorem ok_Kind_init {f : Addr} {fd : FuncData} (F : FunD K "__init__" "Kind.__init__" (defArgs st_Kind_init) (defBody st_Kind_init) (defScope st_Kind_init) [.str "whole"] [("size", .int 8), ("width", .non), ("align", .non)] f fd) (T : Txt K mg ad) (c_is_name : Cal P w K mg base 1 "is_name" spName) (c_is_word_of : Cal P w K mg base 1 "is_word_of" (spWordOf K)) (c_is_one_of : Cal P w K mg base 2 "is_one_of" (spOneOf K)) (c_is_between : Cal P w K mg base 1 "is_between" spBetw) :
    FnOk P w K mg base CX0 3 f fd ["self", "name", "group", "size", "width", "align"] (spKindI ad) := by
  refine F.ok sc_Kind_init (fun vs H Q E h => ?_) (fun cdv A outer s H vs Q E hr h => ?_)
  · unfold spKindI at h; obtain (⟨x, dx, k, wv, av, rfl, ok, hwv, hav, hx, kk⟩) := h
    rfl
  · unfold spKindI at h; obtain (⟨x, dx, k, wv, av, rfl, ok, hwv, hav, hx, kk⟩) := h
    refine ⟨_, pss_cons (ps_if (pt_not (pt_val (pe_c c_is_name hr (by decide) (by rfl) (pa_cons (pv 1) pa_nil)))) (pss_one ps_never) pss_nil)
      (pss_cons (ps_if (pt_not (pt_val (pe_c c_is_word_of hr (by decide) (by rfl) (pa_cons (pv 2) (pa_cons (pe_glob (v := .ref ad.a_GROUPS) (by rfl) T.v_GROUPS rfl) pa_nil))))) (pss_one ps_never) pss_nil)
      (pss_cons (ps_if (pt_not (pt_val (pe_c c_is_one_of hr (by decide) (by rfl) (pa_cons (pv 3) (pa_cons (pe_glob (v := .ref ad.a_SIZES) (by rfl) T.v_SIZES rfl) pa_nil))))) (pss_one ps_never) pss_nil)
      (pss_cons (ps_set (i := 6) sc_Kind_init.nd rfl (.inl rfl) (pe_ifExp (pt_cmpR op_eq (pv 3) (pe_gl (by rfl) T.v_DOUBLE_SIZE) (nomark _)) (pe_gl (by rfl) T.v_LEAST_DOUBLE_WIDTH) (pe_gl (by rfl) T.v_LEAST_WIDTH)))
      (pss_cons (ps_if (PW.pt (pw_and (pt_cmpR op_notN (pv 4) pe_non (nomark _)) (pw_and1 (pt_not (pt_val (pe_c c_is_between hr (by decide) (by rfl) (pa_cons (pv 4) (pa_cons (pv 6) (pa_cons (pe_op op_mul pe_int (pv 3)) pa_nil))))))))) (pss_one ps_never) pss_nil)
      (pss_cons (ps_if (PW.pt (pw_and (pt_cmpR op_notN (pv 5) pe_non (nomark _)) (pw_and1 (pt_not (pt_val (pe_c c_is_one_of hr (by decide) (by rfl) (pa_cons (pv 5) (pa_cons (pe_glob (v := .ref ad.a_ALIGNMENTS) (by rfl) T.v_ALIGNMENTS rfl) pa_nil)))))))) (pss_one ps_never) pss_nil)
      (pss_cons (ps_fld (pv 0) (pv 1) rfl)
      (pss_cons (ps_fld (pv 0) (pv 2) rfl)
      (pss_cons (ps_fld (pv 0) (pv 3) rfl)
      (pss_cons (ps_fld (pv 0) (pe_ifExp (pt_cmpR op_isN (pv 4) pe_non (nomark _)) (pe_op op_mul pe_int (pv 3)) (pv 4)) rfl)
      (pss_cons (ps_fld (pv 0) (pe_ifExp (pt_cmpR op_isN (pv 5) pe_non (nomark _)) (pv 3) (pv 5)) rfl)
      (pss_one (ps_fld (pv 0) (pe_tup (pa_cons (pe_fld (pv 0) rfl) (pa_cons (pe_fld (pv 0) rfl) (pa_cons (pe_fld (pv 0) rfl) (pa_cons (pe_fld (pv 0) rfl) (pa_cons (pe_fld (pv 0) rfl) pa_nil)))))) rfl)))))))))))), ?_⟩
    have s5 := five_cases ok.sz
    refine ⟨_, rfl, k.n, rfl, ok.nm, fun H1 s1 => ⟨_, rfl, iteF ⟨_, rfl, k.g, ad.a_GROUPS, _, rfl, .inr (T.t_GROUPS H1), rfl, _, rfl, ?_⟩⟩⟩
    rw [ok.gr]
    refine iteF ⟨_, rfl, k.s, ad.a_SIZES, _, rfl, T.t_SIZES H1, rfl, _, rfl, ?_⟩
    rw [ok.sz]
    refine iteF ⟨_, rfl, rfl, _, rfl, ?_⟩
    have lo := ok.lo
    have hi := ok.hi
    have x1 := s1 _ _ hx
    have al := ok.al
    refine ite_val (.int (if k.s = 16 then 65 else 2)) (fun c Q hQ => ?_) (fun c Q hQ => ?_) ?_
    · rw [if_pos (by simpa using c)] at hQ
      exact hQ
    · rw [if_neg (by simpa using c)] at hQ
      exact hQ
    generalize (if k.s = 16 then (65 : Int) else 2) = l at lo ⊢
    refine ⟨_, rfl, rfl, _, rfl, ite_and false (fun c Q hQ => ?_) (fun _ => rfl) (iteF ?_)⟩
    · rcases hwv with ⟨rfl, ew⟩ | rfl
      · cases c
      · walk_at "go"
        exact hQ
    refine ⟨_, rfl, rfl, _, rfl, ite_and false (fun c Q hQ => ?_) (fun _ => rfl) (iteF ?_)⟩
    · rcases hav with ⟨rfl, ea⟩ | rfl
      · cases c
      · walk_at "go"
        rw [al]
        exact hQ
    walk_at "go"
    refine ite_val (.int k.w) (fun c Q hQ => ?_) (fun c Q hQ => ?_) ?_
    · rcases hwv with ⟨rfl, ew⟩ | rfl
      · rw [ew] at hQ
        walk_at "go"
        exact hQ
      · cases c
    · rcases hwv with ⟨rfl, ew⟩ | rfl
      · cases c
      · exact ⟨_, rfl, hQ⟩
    walk_at "go"
    refine ite_val (.int k.a) (fun c Q hQ => ?_) (fun c Q hQ => ?_) ?_
    · rcases hav with ⟨rfl, ea⟩ | rfl
      · rw [ea] at hQ
        exact ⟨_, rfl, hQ⟩
      · cases c
    · rcases hav with ⟨rfl, ea⟩ | rfl
      · cases c
      · exact ⟨_, rfl, hQ⟩
    walk_at "go"
    rename_i p hp
    exact kk p _ (by walk_at "look") (by walk_at "look") (by walk_at "stay")
end
end K25
set_option Elab.async false
set_option linter.all false
set_option maxRecDepth 100000
set_option maxHeartbeats 4000000


namespace K25
open PySem L2 UL ClX
local macro_rules | `(tactic| walk_at "txt") => `(tactic| first
  | ((with_reducible show L2.SqT _ _ _ _); first | exact Txt.t_GROUPS (by assumption) _ | exact Txt.t_ALIGNMENTS (by assumption) _ | exact Txt.t_SIZES (by assumption) _)
  | ((with_reducible show L2.Cls _ _); first | exact UL.CIsi.cl (Txt.i_Kind (by assumption)) | exact UL.CIsi.cl (Txt.i_Book (by assumption)))
  | ((with_reducible show UL.CIsi _ _); first | exact Txt.i_Kind (by assumption) | exact Txt.i_Book (by assumption))
  | ((with_reducible show L2.NoAttr _ _ _); first | exact Txt.n_Kind_name (by assumption) | exact Txt.n_Kind_group (by assumption) | exact Txt.n_Kind_size (by assumption) | exact Txt.n_Kind_width (by assumption) | exact Txt.n_Kind_align (by assumption) | exact Txt.n_Kind_parts (by assumption) | exact Txt.n_Book_kinds (by assumption) | exact Txt.n_Book_names (by assumption) | exact Txt.n_Book_parts (by assumption))
  | ((with_reducible show L2.TyX _ _ _ _); first | exact UL.CIsi.ty (Txt.i_Kind (by assumption)) (by walk_at "look") | exact UL.CIsi.ty (Txt.i_Book (by assumption)) (by walk_at "look"))
  | ((with_reducible show PySem.W.kitOne _ (.type _) (.ref _) = _); first | exact ((Txt.k_Kind (by assumption)) _ (by simp)).1 | exact ((Txt.k_Book (by assumption)) _ (by simp)).1)
  | ((with_reducible show _ = PySem.Value.ref _ ∨ _); first | exact .inl rfl | exact .inr ⟨_, rfl, Txt.no_Kind (by assumption)⟩)
  | fail)
theorem KindAt.keep {ad : Ad} {H H' : Hp} {v : V} {k : KD} (h : KindAt ad H v k) (s : Keep H H') : KindAt ad H' v k := by
  obtain ⟨a, dx, p, e, h1, h2⟩ := h
  exact ⟨a, dx, p, e, s.ins h1, s.tup h2⟩
theorem KindAt.stay {ad : Ad} {H H' : Hp} {v : V} {k : KD} {x C dx : Addr} (h : KindAt ad H v k) (hx : H x = some (.ins C dx [])) (s : Stay x H H') : KindAt ad H' v k := by
  obtain ⟨a, da, p, e, h1, h2⟩ := h
  exact ⟨a, da, p, e, s _ _ (ne_of h1 hx (by intro z; simp [kfs] at z)) h1, s _ _ (ne_of h2 hx (by intro z; cases z)) h2⟩
/-- the parts' own tuples -/
def PartsAt (H : Hp) : List V → List KD → Prop := Each fun v k => ∃ p, v = .ref p ∧ H p = some (.tup (kparts k))
/-- the kinds' parts -/
theorem parts_of {ad : Ad} {H : Hp} : ∀ {kvs : List V} {ks : List KD}, Each (KindAt ad H) kvs ks → ∃ pvs : List V, pvs.length = kvs.length ∧ PartsAt H pvs ks ∧ ∀ (i : Nat) v k, kvs[i]? = some v → ks[i]? = some k → ∃ a dx p, v = .ref a ∧ H a = some (.ins ad.c_Kind dx (kfs k p)) ∧ pvs[i]? = some (.ref p)
  | [], [], _ => ⟨[], rfl, Each.nil, fun i v k h => by simp at h⟩
  | [], _ :: _, e => absurd e.1 (by simp)
  | _ :: _, [], e => absurd e.1 (by simp)
  | v :: kvs, k :: ks, e => by
    obtain ⟨pvs, l, h1, h2⟩ := parts_of (ad := ad) (H := H) (kvs := kvs) (ks := ks) ⟨by have := e.1; simpa using this, fun i x y a b => e.2 (i + 1) x y (by simpa using a) (by simpa using b)⟩
    obtain ⟨a, dx, p, ev, i1, i2⟩ := e.2 0 v k rfl rfl
    refine ⟨.ref p :: pvs, by simp [l], Each.cons ⟨p, rfl, i2⟩ h1, fun i v' k' a1 a2 => ?_⟩
    cases i with
    | zero =>
      simp at a1 a2
      subst a1 a2
      exact ⟨a, dx, p, ev, i1, rfl⟩
    | succ i => exact h2 i v' k' (by simpa using a1) (by simpa using a2)
/-- one step before a kind is made -/
theorem kmade1 {ad : Ad} {H1 : Hp} {x dx : Addr} {k : KD} {wv av : V} {R : VK} (nx : H1 x = none) (nd : H1 dx = none) (ne : dx ≠ x) (ok : k.ok) (hw : wv = .non ∧ k.w = 8 * k.s ∨ wv = .int k.w) (ha : av = .non ∧ k.a = k.s ∨ av = .int k.a)
    (kk : ∀ H', L2.Same H1 H' → KindAt ad H' (.ref x) k → R .non H') : spKindI ad [.ref x, .str k.n, .str k.g, .int k.s, wv, av] (upd (upd H1 dx (.own x)) x (.ins ad.c_Kind dx [])) R E0 := by
  have s1 : L2.Same H1 (upd H1 dx (.own x)) := same_new nd
  have n2 : upd H1 dx (.own x) x = none := by rw [upd_ne ne.symm]; exact nx
  unfold spKindI
  refine ⟨x, dx, k, wv, av, rfl, ok, hw, ha, upd_same, fun p H' h1 h2 st => kk H' ?_ ⟨x, dx, p, rfl, h2, h1⟩⟩
  exact fun b o e => st b o (ne_of_none e nx) (same_new n2 b o (s1 b o e))
def gKA : List V → List V → List V := fun vs zs => vs ++ zs ++ [.non, .non]
def gB {α : Type} (us ds mv ws : List α) : List α := match ws with
  | [n, a, w, s] => us ++ [n] ++ ds ++ [s, w, a]
  | _ => []
def gKB : List V → List V → List V := fun vs zs => gB vs [.str "whole"] [] zs
def gKC : List V → List V → List V := fun vs zs => vs ++ zs
/-- the names of a book's kinds -/
def nms (ks : List KD) : List V := ks.map fun k => .str k.n
theorem nms_eq (ks : List KD) : nms ks = (ks.map KD.n).map V.str := by rw [nms, List.map_map]; rfl
def bfs (kt nt pt : Addr) : List (Str × V) := [("_kinds", .ref kt), ("_names", .ref nt), ("_parts", .ref pt)]
structure bok (ks : List KD) : Prop where
  ok : ∀ k ∈ ks, k.ok
  nd : (ks.map KD.n).Nodup
  lo : 1 ≤ ks.length
  hi : ks.length ≤ 5
def BookAt (ad : Ad) (H : Hp) (v : V) (ks : List KD) : Prop := ∃ a dx kt nt pt kvs pvs, v = .ref a ∧ H a = some (.ins ad.c_Book dx (bfs kt nt pt)) ∧ H kt = some (.tup kvs) ∧ Each (KindAt ad H) kvs ks ∧ H nt = some (.tup (nms ks)) ∧ H pt = some (.tup pvs) ∧ PartsAt H pvs ks ∧ bok ks
theorem BookAt.keep {ad : Ad} {H H' : Hp} {v : V} {ks : List KD} (h : BookAt ad H v ks) (s : Keep H H') : BookAt ad H' v ks := by
  obtain ⟨a, dx, kt, nt, pt, kvs, pvs, e, h1, h2, h3, h4, h5, h6, ok⟩ := h
  exact ⟨a, dx, kt, nt, pt, kvs, pvs, e, s.ins h1, s.tup h2, h3.imp fun v k q => q.keep s, s.tup h4, s.tup h5, h6.imp fun v k ⟨p, e, q⟩ => ⟨p, e, s.tup q⟩, ok⟩
theorem BookAt.same {ad : Ad} {H H' : Hp} {v : V} {ks : List KD} (h : BookAt ad H v ks) (s : L2.Same H H') : BookAt ad H' v ks := h.keep (UL.Same.keep s)
theorem KindAt.ext {ad : Ad} {H H' : Hp} {v : V} {k : KD} (h : KindAt ad H v k) (s : LamX.ExtN H H') : KindAt ad H' v k := by
  obtain ⟨a, dx, p, e, h1, h2⟩ := h
  exact ⟨a, dx, p, e, s _ _ h1 (by simp), s _ _ h2 (by simp)⟩
theorem BookAt.ext {ad : Ad} {H H' : Hp} {v : V} {ks : List KD} (h : BookAt ad H v ks) (s : LamX.ExtN H H') : BookAt ad H' v ks := by
  obtain ⟨a, dx, kt, nt, pt, kvs, pvs, e, h1, h2, h3, h4, h5, h6, ok⟩ := h
  exact ⟨a, dx, kt, nt, pt, kvs, pvs, e, s _ _ h1 (by simp), s _ _ h2 (by simp), h3.imp fun v k q => q.ext s, s _ _ h4 (by simp), s _ _ h5 (by simp), h6.imp fun v k ⟨p, e, q⟩ => ⟨p, e, s _ _ q (by simp)⟩, ok⟩
section
variable {P : Program} {w : World} {K : PySem.W.Frag} {mg : Str → Option Value} {base : Heap} {ad : Ad}
def spKGet (ad : Ad) (f : KD → V) : Sp := fun vs H Q _ => ∃ v k, vs = [v] ∧ KindAt ad H v k ∧ Q (f k) H
abbrev st_Kind_name : Stmt := inClass (top 26) 1
theorem sc_Kind_name : FnScope ["self"] ["self"] (defScope st_Kind_name) := ⟨rfl, rfl, rfl, by decide +kernel, rfl, by decide +kernel, by decide +kernel⟩
theorem ok_Kind_name {f : Addr} {fd : FuncData} (F : Fun K "name" "Kind.name" st_Kind_name f fd) (T : Txt K mg ad)  :
    FnOk P w K mg base CX0 1 f fd ["self"] (spKGet ad fun k => .str k.n) := by
  refine F.ok sc_Kind_name (fun vs H Q E h => ?_) (fun cdv A outer s H vs Q E hr h => ?_)
  · obtain (⟨v, k, rfl, ⟨a, dx, p, rfl, h1, h2⟩, q⟩) := h
    rfl
  · obtain (⟨v, k, rfl, ⟨a, dx, p, rfl, h1, h2⟩, q⟩) := h
    refine ⟨_, pss_one (ps_ret (pe_fld (pv 0) rfl)), ?_⟩
    walk_at "go"
    exact q
def spKParts (ad : Ad) : Sp := fun vs H Q _ => ∃ a dx k p, vs = [.ref a] ∧ H a = some (.ins ad.c_Kind dx (kfs k p)) ∧ Q (.ref p) H
abbrev st_Kind_parts : Stmt := inClass (top 26) 7
theorem sc_Kind_parts : FnScope ["self"] ["self"] (defScope st_Kind_parts) := ⟨rfl, rfl, rfl, by decide +kernel, rfl, by decide +kernel, by decide +kernel⟩
theorem ok_Kind_parts {f : Addr} {fd : FuncData} (F : Fun K "parts" "Kind.parts" st_Kind_parts f fd) (T : Txt K mg ad)  :
    FnOk P w K mg base CX0 1 f fd ["self"] (spKParts ad) := by
  refine F.ok sc_Kind_parts (fun vs H Q E h => ?_) (fun cdv A outer s H vs Q E hr h => ?_)
  · obtain (⟨a, dx, k, p, rfl, h1, q⟩) := h
    rfl
  · obtain (⟨a, dx, k, p, rfl, h1, q⟩) := h
    refine ⟨_, pss_one (ps_ret (pe_fld (pv 0) rfl)), ?_⟩
    walk_at "go"
    exact q

end
end K25
set_option Elab.async false
set_option linter.all false
set_option maxRecDepth 100000
set_option maxHeartbeats 4000000


namespace K25
open PySem L2 UL ClX
local macro_rules | `(tactic| walk_at "txt") => `(tactic| first
  | ((with_reducible show L2.SqT _ _ _ _); first | exact Txt.t_GROUPS (by assumption) _ | exact Txt.t_ALIGNMENTS (by assumption) _ | exact Txt.t_SIZES (by assumption) _)
  | ((with_reducible show L2.Cls _ _); first | exact UL.CIsi.cl (Txt.i_Kind (by assumption)) | exact UL.CIsi.cl (Txt.i_Book (by assumption)))
  | ((with_reducible show UL.CIsi _ _); first | exact Txt.i_Kind (by assumption) | exact Txt.i_Book (by assumption))
  | ((with_reducible show L2.NoAttr _ _ _); first | exact Txt.n_Kind_name (by assumption) | exact Txt.n_Kind_group (by assumption) | exact Txt.n_Kind_size (by assumption) | exact Txt.n_Kind_width (by assumption) | exact Txt.n_Kind_align (by assumption) | exact Txt.n_Kind_parts (by assumption) | exact Txt.n_Book_kinds (by assumption) | exact Txt.n_Book_names (by assumption) | exact Txt.n_Book_parts (by assumption))
  | ((with_reducible show L2.TyX _ _ _ _); first | exact UL.CIsi.ty (Txt.i_Kind (by assumption)) (by walk_at "look") | exact UL.CIsi.ty (Txt.i_Book (by assumption)) (by walk_at "look"))
  | ((with_reducible show PySem.W.kitOne _ (.type _) (.ref _) = _); first | exact ((Txt.k_Kind (by assumption)) _ (by simp)).1 | exact ((Txt.k_Book (by assumption)) _ (by simp)).1)
  | ((with_reducible show _ = PySem.Value.ref _ ∨ _); first | exact .inl rfl | exact .inr ⟨_, rfl, Txt.no_Kind (by assumption)⟩)
  | fail)
/-- what a book is made of: a kind, or another value -/
inductive Th where
  | kind (k : KD)
  | odd (v : V) (d : PyData)
def Th.isOdd : Th → Bool
  | .kind _ => false
  | .odd _ _ => true
def ThAt (K : PySem.W.Frag) (ad : Ad) (H : Hp) (v : V) : Th → Prop
  | .kind k => KindAt ad H v k ∧ k.ok
  | .odd u d => v = u ∧ Vd K H u d
theorem ThAt.ext {K : PySem.W.Frag} {ad : Ad} {H H' : Hp} {v : V} {t : Th} (h : ThAt K ad H v t) (s : LamX.ExtN H H') : ThAt K ad H' v t := by
  cases t with
  | kind k => exact ⟨h.1.ext s, h.2⟩
  | odd u d => exact ⟨h.1, h.2.ext s⟩
theorem ThAt.same {K : PySem.W.Frag} {ad : Ad} {H H' : Hp} {v : V} {t : Th} (h : ThAt K ad H v t) (s : L2.Same H H') : ThAt K ad H' v t := h.ext (LamX.ExtN.of s)
def kds (ts : List Th) : List KD := ts.filterMap fun
  | .kind k => some k
  | .odd _ _ => none
def oddB (ts : List Th) (i : Nat) : Bool := match ts[i]? with
  | some t => t.isOdd
  | none => false
def dupB (ns : List Str) (i : Nat) : Bool := decide (ns.getD i "" ∈ ns.take i)
def ksn (ks : List KD) : List Str := ks.map KD.n
/-- what making a book comes to -/
inductive BOut where
  | kind (v : V) (d : PyData)
  | name (n : Str)
  | many
  | book
  | made (ks : List KD)
def bout (ts : List Th) : BOut := match (List.range ts.length).find? (oddB ts) with
  | some i => (match ts[i]? with
    | some (.odd v d) => .kind v d
    | _ => .book)
  | none => match (List.range (kds ts).length).find? (dupB (ksn (kds ts))) with
    | some j => .name ((ksn (kds ts)).getD j "")
    | none => if 5 < (kds ts).length then .many else if (kds ts).length = 0 then .book else .made (kds ts)
theorem bout_odd {ts : List Th} {i : Nat} {v : V} {d : PyData} (h : ts[i]? = some (.odd v d)) (no : ∀ j, j < i → oddB ts j = false) : bout ts = .kind v d := by
  have hi := (List.getElem?_eq_some_iff.mp h).1
  have e : oddB ts i = true := by
    unfold oddB
    rw [h]
    rfl
  unfold bout
  rw [find_at e hi no]
  simp only [h]
theorem bout_dup {ts : List Th} {i : Nat} (no : ∀ j, j < ts.length → oddB ts j = false) (hi : i < (kds ts).length) (h : dupB (ksn (kds ts)) i = true) (nd : ∀ j, j < i → dupB (ksn (kds ts)) j = false) : bout ts = .name ((ksn (kds ts)).getD i "") := by
  unfold bout
  rw [find_none no]
  simp only [find_at h hi nd]
theorem bout_rest {ts : List Th} (no : ∀ j, j < ts.length → oddB ts j = false) (nd : ∀ j, j < (kds ts).length → dupB (ksn (kds ts)) j = false) : bout ts = if 5 < (kds ts).length then .many else if (kds ts).length = 0 then .book else .made (kds ts) := by
  unfold bout
  rw [find_none no]
  simp only [find_none nd]
theorem nodup_of {ns : List Str} (nd : ∀ j, j < ns.length → dupB ns j = false) : ns.Nodup := by
  rw [List.nodup_iff_pairwise_ne, List.pairwise_iff_getElem]
  intro i j hi hj hij e
  have := nd j hj
  unfold dupB at this
  rw [decide_eq_false_iff_not] at this
  refine this ?_
  rw [List.getD_eq_getElem?_getD, List.getElem?_eq_getElem hj, Option.getD_some, ← e]
  refine List.mem_of_getElem? (i := i) ?_
  rw [List.getElem?_take, if_pos hij, List.getElem?_eq_getElem hi]
/-- none is odd: they are kinds -/
theorem kinds_of {K : PySem.W.Frag} {ad : Ad} {H : Hp} : ∀ {kvs : List V} {ts : List Th}, Each (ThAt K ad H) kvs ts → (∀ j, j < ts.length → oddB ts j = false) → ts = (kds ts).map .kind ∧ Each (KindAt ad H) kvs (kds ts) ∧ ∀ k ∈ kds ts, k.ok
  | [], [], _, _ => ⟨rfl, Each.nil, fun k h => by cases h⟩
  | [], _ :: _, e, _ => absurd e.1 (by simp)
  | _ :: _, [], e, _ => absurd e.1 (by simp)
  | v :: kvs, t :: ts, e, no => by
    obtain ⟨h1, h2, h3⟩ := kinds_of (K := K) (ad := ad) (H := H) (kvs := kvs) (ts := ts) ⟨by have := e.1; simpa using this, fun i x y a b => e.2 (i + 1) x y (by simpa using a) (by simpa using b)⟩ fun j hj => by
      have := no (j + 1) (by rw [List.length_cons]; omega)
      unfold oddB at this ⊢
      simpa using this
    have h := e.2 0 v t rfl rfl
    cases t with
    | kind k =>
      have ek : kds (.kind k :: ts) = k :: kds ts := rfl
      rw [ek]
      refine ⟨by rw [List.map_cons, ← h1], Each.cons h.1 h2, fun x hx => ?_⟩
      rcases List.mem_cons.mp hx with rfl | hx
      · exact h.2
      · exact h3 x hx
    | odd u d =>
      have := no 0 (by rw [List.length_cons]; omega)
      cases this
theorem kds_kinds (ks : List KD) : kds (ks.map .kind) = ks := by
  induction ks with
  | nil => rfl
  | cons k ks ih =>
    have e : kds ((k :: ks).map .kind) = k :: kds (ks.map .kind) := rfl
    rw [e, ih]
theorem odd_kinds (ks : List KD) (j : Nat) : oddB (ks.map .kind) j = false := by
  unfold oddB
  rw [List.getElem?_map]
  cases ks[j]? <;> rfl
theorem bout_made {ks : List KD} (h : bok ks) : bout (ks.map .kind) = .made ks := by
  have e := bout_rest (ts := ks.map .kind) (fun j _ => odd_kinds ks j) (fun j hj => by
    rw [kds_kinds] at hj ⊢
    unfold dupB
    refine decide_eq_false (not_ahead h.nd ?_)
    simp [ksn, hj])
  rw [kds_kinds, if_neg (by have := h.hi; omega), if_neg (by have := h.lo; omega)] at e
  exact e
/-- the error it is -/
def berr (ad : Ad) : BOut → Option (Addr × List (Str × V))
  | .kind v _ => some (ad.c_InvalidKind, [("value", v)])
  | .name n => some (ad.c_InvalidName, [("value", .str n)])
  | .many => some (ad.c_TooMany, [("limit", .int 5), ("what", .str "kinds")])
  | .book => some (ad.c_InvalidBook, [("value", .non)])
  | .made _ => none
section
variable {P : Program} {w : World} {K : PySem.W.Frag} {mg : Str → Option Value} {base : Heap} {ad : Ad}
abbrev st_InvalidName_init : Stmt := inClass (top 11) 0
theorem sc_InvalidName_init : FnScope ["self", "value"] ["self", "value"] (defScope st_InvalidName_init) := ⟨rfl, rfl, rfl, by decide +kernel, rfl, by decide +kernel, by decide +kernel⟩
theorem ok_InvalidName_init {f : Addr} {fd : FuncData} (F : Fun K "__init__" "InvalidName.__init__" st_InvalidName_init f fd) (T : Txt K mg ad)  :
    FnOk P w K mg base CX0 1 f fd ["self", "value"] (spExI ad.c_InvalidName ["value"]) := by
  refine F.ok sc_InvalidName_init (fun vs H Q E h => ?_) (fun cdv A outer s H vs Q E hr h => ?_)
  · obtain (⟨a, ws, rfl, hl, ha, q⟩) := h
    simpa using hl
  · obtain (⟨a, ws, rfl, hl, ha, q⟩) := h
    refine ⟨_, pss_one (ps_exs T.x_InvalidName T.xn_InvalidName_value (pv 1) (pv 0)), ?_⟩
    match ws, hl with
    | [v], _ =>
      walk_at "go"
      rename_i d hd hne
      exact q d _ hd hne rfl
abbrev st_InvalidKind_init : Stmt := inClass (top 12) 0
theorem sc_InvalidKind_init : FnScope ["self", "value"] ["self", "value"] (defScope st_InvalidKind_init) := ⟨rfl, rfl, rfl, by decide +kernel, rfl, by decide +kernel, by decide +kernel⟩
theorem ok_InvalidKind_init {f : Addr} {fd : FuncData} (F : Fun K "__init__" "InvalidKind.__init__" st_InvalidKind_init f fd) (T : Txt K mg ad)  :
    FnOk P w K mg base CX0 1 f fd ["self", "value"] (spExI ad.c_InvalidKind ["value"]) := by
  refine F.ok sc_InvalidKind_init (fun vs H Q E h => ?_) (fun cdv A outer s H vs Q E hr h => ?_)
  · obtain (⟨a, ws, rfl, hl, ha, q⟩) := h
    simpa using hl
  · obtain (⟨a, ws, rfl, hl, ha, q⟩) := h
    refine ⟨_, pss_one (ps_exs T.x_InvalidKind T.xn_InvalidKind_value (pv 1) (pv 0)), ?_⟩
    match ws, hl with
    | [v], _ =>
      walk_at "go"
      rename_i d hd hne
      exact q d _ hd hne rfl
abbrev st_InvalidBook_init : Stmt := inClass (top 13) 0
theorem sc_InvalidBook_init : FnScope ["self", "value"] ["self", "value"] (defScope st_InvalidBook_init) := ⟨rfl, rfl, rfl, by decide +kernel, rfl, by decide +kernel, by decide +kernel⟩
theorem ok_InvalidBook_init {f : Addr} {fd : FuncData} (F : Fun K "__init__" "InvalidBook.__init__" st_InvalidBook_init f fd) (T : Txt K mg ad)  :
    FnOk P w K mg base CX0 1 f fd ["self", "value"] (spExI ad.c_InvalidBook ["value"]) := by
  refine F.ok sc_InvalidBook_init (fun vs H Q E h => ?_) (fun cdv A outer s H vs Q E hr h => ?_)
  · obtain (⟨a, ws, rfl, hl, ha, q⟩) := h
    simpa using hl
  · obtain (⟨a, ws, rfl, hl, ha, q⟩) := h
    refine ⟨_, pss_one (ps_exs T.x_InvalidBook T.xn_InvalidBook_value (pv 1) (pv 0)), ?_⟩
    match ws, hl with
    | [v], _ =>
      walk_at "go"
      rename_i d hd hne
      exact q d _ hd hne rfl
abbrev st_TooMany_init : Stmt := inClass (top 17) 0
theorem sc_TooMany_init : FnScope ["self", "what", "limit"] ["self", "what", "limit"] (defScope st_TooMany_init) := ⟨rfl, rfl, rfl, by decide +kernel, rfl, by decide +kernel, by decide +kernel⟩
theorem ok_TooMany_init {f : Addr} {fd : FuncData} (F : Fun K "__init__" "TooMany.__init__" st_TooMany_init f fd) (T : Txt K mg ad)  :
    FnOk P w K mg base CX0 1 f fd ["self", "what", "limit"] (spExI ad.c_TooMany ["what", "limit"]) := by
  refine F.ok sc_TooMany_init (fun vs H Q E h => ?_) (fun cdv A outer s H vs Q E hr h => ?_)
  · obtain (⟨a, ws, rfl, hl, ha, q⟩) := h
    simpa using hl
  · obtain (⟨a, ws, rfl, hl, ha, q⟩) := h
    refine ⟨_, pss_cons (ps_exs T.x_TooMany T.xn_TooMany_what (pv 1) (pv 0))
      (pss_one (ps_exs T.x_TooMany T.xn_TooMany_limit (pv 2) (pv 0))), ?_⟩
    match ws, hl with
    | [v, u], _ =>
      walk_at "go"
      rename_i d hd hne
      refine ⟨by simp, q d _ hd hne ?_⟩
      funext b
      by_cases c1 : b = d
      · subst c1
        rw [upd_same, if_neg hne, if_pos rfl]
        rfl
      · rw [upd_ne c1, if_neg c1]
        by_cases c2 : b = a
        · rw [c2, upd_same, if_pos rfl]
        · rw [upd_ne c2, upd_ne c1, if_neg c2]
end
end K25
set_option Elab.async false
set_option linter.all false
set_option maxRecDepth 100000
set_option maxHeartbeats 4000000


namespace K25
open PySem L2 UL ClX
local macro_rules | `(tactic| walk_at "txt") => `(tactic| first
  | ((with_reducible show L2.SqT _ _ _ _); first | exact Txt.t_GROUPS (by assumption) _ | exact Txt.t_ALIGNMENTS (by assumption) _ | exact Txt.t_SIZES (by assumption) _)
  | ((with_reducible show L2.Cls _ _); first | exact UL.CIsi.cl (Txt.i_Kind (by assumption)) | exact UL.CIsi.cl (Txt.i_Book (by assumption)))
  | ((with_reducible show UL.CIsi _ _); first | exact Txt.i_Kind (by assumption) | exact Txt.i_Book (by assumption))
  | ((with_reducible show L2.NoAttr _ _ _); first | exact Txt.n_Kind_name (by assumption) | exact Txt.n_Kind_group (by assumption) | exact Txt.n_Kind_size (by assumption) | exact Txt.n_Kind_width (by assumption) | exact Txt.n_Kind_align (by assumption) | exact Txt.n_Kind_parts (by assumption) | exact Txt.n_Book_kinds (by assumption) | exact Txt.n_Book_names (by assumption) | exact Txt.n_Book_parts (by assumption))
  | ((with_reducible show L2.TyX _ _ _ _); first | exact UL.CIsi.ty (Txt.i_Kind (by assumption)) (by walk_at "look") | exact UL.CIsi.ty (Txt.i_Book (by assumption)) (by walk_at "look"))
  | ((with_reducible show PySem.W.kitOne _ (.type _) (.ref _) = _); first | exact ((Txt.k_Kind (by assumption)) _ (by simp)).1 | exact ((Txt.k_Book (by assumption)) _ (by simp)).1)
  | ((with_reducible show _ = PySem.Value.ref _ ∨ _); first | exact .inl rfl | exact .inr ⟨_, rfl, Txt.no_Kind (by assumption)⟩)
  | fail)
section
variable {P : Program} {w : World} {K : PySem.W.Frag} {mg : Str → Option Value} {base : Heap} {ad : Ad}
/-- Book.__init__, what it gets in a tuple -/
def spBookX (K : PySem.W.Frag) (ad : Ad) : Sp := fun vs H Q E => ∃ (x dx kt : Addr) (kvs : List V) (ts : List Th), vs = [.ref x, .ref kt] ∧ H kt = some (.tup kvs) ∧ Each (ThAt K ad H) kvs ts ∧ ts.length ≤ 1000 ∧ H x = some (.ins ad.c_Book dx []) ∧
  (∀ C fs, berr ad (bout ts) = some (C, fs) → ∀ d H', H d = none → H' d = some (.xd fs) → L2.Same H H' → E (.ref C) (some d) H') ∧
  (∀ ks, bout ts = .made ks → bok ks → Each (KindAt ad H) kvs ks → ∀ (nt pt : Addr) (pvs : List V) (H' : Hp), H' nt = some (.tup (nms ks)) → H' pt = some (.tup pvs) → PartsAt H' pvs ks → H' x = some (.ins ad.c_Book dx (bfs kt nt pt)) → Stay x H H' → Q .non H')
abbrev st_Book_init : Stmt := inClass (top 27) 0
theorem sc_Book_init : FnScope ["self", "kinds", "kind", "names", "position", "name"] ["self", "kinds"] (defScope st_Book_init) := ⟨rfl, rfl, rfl, by decide +kernel, rfl, by decide +kernel, by decide +kernel⟩
theorem ok_Book_init {f : Addr} {cdv : Value} (e_InvalidKind : MakE P w K mg base 1 "InvalidKind" ad.c_InvalidKind ["value"]) (c_Kind_name : CalP P w K mg base 1 ad.c_Kind "name" (spKGet ad fun k => .str k.n)) (e_InvalidName : MakE P w K mg base 1 "InvalidName" ad.c_InvalidName ["value"]) (e_TooMany : MakE P w K mg base 1 "TooMany" ad.c_TooMany ["what", "limit"]) (e_InvalidBook : MakE P w K mg base 1 "InvalidBook" ad.c_InvalidBook ["value"]) (c_Kind_parts : CalM P w K mg base 1 ad.c_Kind "parts" (spKParts ad)) (T : Txt K mg ad) {A : Around} {outer : List Env} {s : Shared} {H : Hp} {vs : List V} {Q : VK} {E : XK} (hr : Room 2 (A.deeper (PyProof.Rows.envOfC "Book.__init__" (defScope st_Book_init) s.heap.objs.size f cdv))) (h : (spBookX K ad) vs H Q E) :
    ∃ t, PSs (cxOf (L2.CX P w) P w K mg base ["self", "kinds", "kind", "names", "position", "name"] "Book.__init__" (defScope st_Book_init) f cdv A outer s H E) (defBody st_Book_init) t ∧ t { nx := fun _ H' => Q .non H', rt := Q } (L2.start ["self", "kinds", "kind", "names", "position", "name"] vs) H := by
  · obtain (⟨x, dx, kt, kvs, ts, rfl, hkt, hT, hz, hx, kE, kk⟩) := h
    refine ⟨_, pss_cons (ps_for (passes_of rfl) rfl (pi_tup (pv 1)) (pg_name (i := 2) sc_Book_init.nd rfl (Or.inl rfl))
        (pss_one (ps_if (pt_not (pt_val (pe_callB call_isi (by rfl) T.bi.isinstance (by decide +kernel) (pa_cons (pv 2) (pa_cons (pe_glob (v := .ref ad.c_Kind) (by rfl) T.g_Kind rfl) pa_nil))))) (pss_one (ps_raise rfl (takes_of rfl rfl rfl rfl) (pmk_E e_InvalidKind hr (by decide) (by decide) (by rfl) (pa_cons (pv 2) pa_nil)))) pss_nil)))
      (pss_cons (ps_setLc (i := 3) (own := [("kind", 2)]) (g := gName 2) (tt := tYes) rfl sc_Book_init.nd rfl rfl (sw_true rfl rfl rfl (by decide +kernel)) (pi_tup (pv 1)) (blkOk_by (N := ["self", "kinds", "kind", "names", "position", "name"]) (sc := defScope st_Book_init) (by decide +kernel)) (fun _ _ _ _ _ => pg_name (i := 2) sc_Book_init.nd rfl (Or.inl rfl)) (fun _ _ _ _ _ => pts_nil) (fun _ _ _ _ _ => UL.pe_conv (pe_p (pv 2) c_Kind_name hr (by decide) (by rfl)) (by walk_at "unk")))
      (pss_cons (ps_for (passes_of rfl) rfl (pi_enumT (by rfl) T.bi.enumerate (pa_cons (pv 3) pa_nil)) (pg_tup rfl (pgs_cons (pg_name (i := 4) sc_Book_init.nd rfl (Or.inl rfl)) (pgs_cons (pg_name (i := 5) sc_Book_init.nd rfl (Or.inl rfl)) pgs_nil)))
        (pss_one (ps_if (pt_cmpR op_in_seq (pv 5) (pe_slice sl_list (pv 3) po_none (po_some (pv 4))) (by rfl)) (pss_one (ps_raise rfl (takes_of rfl rfl rfl rfl) (pmk_E e_InvalidName hr (by decide) (by decide) (by rfl) (pa_cons (pv 5) pa_nil)))) pss_nil)))
      (pss_cons (ps_if (pt_cmpR op_gt (pe_callB call_len_seq (by rfl) T.bi.len (by decide +kernel) (pa_cons (pv 1) pa_nil)) (pe_gl (by rfl) T.v_MOST_KINDS) (nomark _)) (pss_one (ps_raise rfl (takes_of rfl rfl rfl rfl) (pmk_E e_TooMany hr (by decide) (by decide) (by rfl) (pa_cons pe_str (pa_cons (pe_gl (by rfl) T.v_MOST_KINDS) pa_nil))))) pss_nil)
      (pss_cons (ps_if (pt_cmpR op_eq (pe_callB call_len_seq (by rfl) T.bi.len (by decide +kernel) (pa_cons (pv 1) pa_nil)) pe_int (nomark _)) (pss_one (ps_raise rfl (takes_of rfl rfl rfl rfl) (pmk_E e_InvalidBook hr (by decide) (by decide) (by rfl) (pa_cons pe_non pa_nil)))) pss_nil)
      (pss_cons (ps_fld (pv 0) (pv 1) rfl)
      (pss_cons (ps_fld (pv 0) (pe_callTy call_tuple_of (by rfl) T.bi.tuple (by decide +kernel) (pa_cons (pv 3) pa_nil)) rfl)
      (pss_one (ps_fld (pv 0) (pe_callTy call_tuple_of (by rfl) T.bi.tuple (by decide +kernel) (pa_cons (pe_lc (own := [("kind", 2)]) (g := gName 2) (tt := tYes) rfl sc_Book_init.nd (pi_tup (pv 1)) (blkOk_by (N := ["self", "kinds", "kind", "names", "position", "name"]) (sc := defScope st_Book_init) (by decide +kernel)) (fun _ _ _ _ _ => pg_name (i := 2) sc_Book_init.nd rfl (Or.inl rfl)) (fun _ _ _ _ _ => pts_nil) (fun _ _ _ _ _ => UL.pe_conv (pe_m0 (pv 2) c_Kind_parts hr (by decide)) (by walk_at "unk"))) pa_nil)) rfl)))))))), ?_⟩
    have nkx : kt ≠ x := ne_of hkt hx (by intro z; cases z)
    have lt := hT.1
    refine ⟨_, rfl, kt, rfl, ⟨kvs, SqT.of hkt⟩, for_it (walk_tup (xs := kvs)) (fun i σ H' => Hold (∃ a, σ = [some (.ref x), some (.ref kt), a, none, none, none] ∧ L2.Same H H' ∧ ∀ j, j < i → oddB ts j = false)) (Hold.mk ⟨_, rfl, L2.Same.refl _, fun j hj => absurd hj (by omega)⟩) (fun i σ H1 _ hh => ?_) (fun i y σ H1 H' hi hh hy => ?_) (fun σ H1 hh => ?_)⟩
    · obtain ⟨_, _, s1, _⟩ := hh.out
      exact SqT.of (s1 _ _ hkt)
    · obtain ⟨a, es, s1, no⟩ := hh.out
      clear hh
      subst es
      obtain ⟨rfl, hy⟩ := hy
      obtain ⟨t, ht, hA⟩ := hT.at hy
      have hA1 := hA.same s1
      cases t with
      | kind k =>
        obtain ⟨⟨b, db, p, rfl, h1, h2⟩, _⟩ := hA1
        walk_at "go"
        exact Hold.mk ⟨_, rfl, s1, fun j hj => by
          by_cases c : j < i
          · exact no j c
          · have : j = i := by omega
            subst this
            unfold oddB
            rw [ht]
            rfl⟩
      | odd u d =>
        obtain ⟨rfl, hv⟩ := hA1
        have ty := hv.ty
        have kn := (T.k_Kind _ (tyN_mem d)).1
        have be := bout_odd ht no
        rw [be] at kE
        walk_at "go"
        rename_i e he
        exact kE _ _ rfl e _ (UL.Same.none s1 he) upd_same (s1.trans (same_new he))
    obtain ⟨a, es, s1, no⟩ := hh.out
    clear hh
    subst es
    rw [lt] at no
    obtain ⟨ets, hE, hok⟩ := kinds_of hT no
    clear ets
    generalize eks : kds ts = ks at hE hok
    have ek := hE.1
    have lk : kvs.length ≤ 1000 := by rw [lt]; exact hz
    have en : kvs.length = (nms ks).length := by rw [hE.1, nms, List.length_map]
    refine ⟨_, rfl, kt, rfl, ⟨kvs, SqT.of (s1 _ _ hkt)⟩, fun D hD => lc_same (walk_tup (xs := kvs)) hD (fun i => (nms ks).getD i .non) (by omega) (fun H2 s2 => SqT.of (s2 _ _ (s1 _ _ hkt))) (fun i y H2 H' hi s2 hy R hR => ?_) (fun H2 s2 hd => ?_)⟩
    · obtain ⟨rfl, hy⟩ := hy
      obtain ⟨k, hk, hK⟩ := hE.at hy
      obtain ⟨b, db, p, rfl, h1, h2⟩ := id ((hK.same s1).same s2)
      have ei : (nms ks).getD i .non = .str k.n := by simp [nms, hk]
      rw [ei] at hR
      walk_at "go"
      exact ⟨_, k, rfl, (hK.same s1).same s2, hR _ (L2.Same.refl _)⟩
    rw [en, range_getD] at hd
    have s12 := s1.trans s2
    clear s2 s1
    refine ⟨_, rfl, D, _, rfl, .inl ⟨SqL.of hd, for_it (walk_enum (xs := nms ks)) (fun i σ H3 => Hold (∃ a b c, σ = [some (.ref x), some (.ref kt), a, some (.ref D), b, c] ∧ L2.Same H H3 ∧ H3 D = some (.lst (nms ks)) ∧ ∀ j, j < i → dupB (ksn ks) j = false)) (Hold.mk ⟨_, _, _, rfl, s12, hd, fun j hj => absurd hj (by omega)⟩) (fun i σ H3 _ hh => ?_) (fun i y σ H3 H' hi hh hy => ?_) (fun σ H3 hh => ?_)⟩⟩
    · obtain ⟨_, _, _, _, _, d3, _⟩ := hh.out
      exact SqL.of d3
    · obtain ⟨a, b, c, es, s3, hd3, nd⟩ := hh.out
      clear hh
      subst es
      obtain ⟨T1, u, v, rfl, hT1, rfl, hu, hv⟩ := hy
      cases hu
      obtain ⟨k, hk, rfl⟩ : ∃ k, ks[i]? = some k ∧ v = .str k.n := by
        simp only [nms, List.getElem?_map] at hv
        obtain ⟨k, hk, e⟩ := Option.map_eq_some_iff.mp hv
        exact ⟨k, hk, e.symm⟩
      have hik := (List.getElem?_eq_some_iff.mp hk).1
      have gD : (ksn ks).getD i "" = k.n := by
        rw [List.getD_eq_getElem?_getD, ksn, List.getElem?_map, hk]
        rfl
      have inn : inV (.str k.n) (cutV (nms ks) none (some ((i : Nat) : Int))) = dupB (ksn ks) i := by
        rw [cut_to, nms_eq, ← List.map_take, in_strs]
        unfold dupB
        rw [gD]
        rfl
      have fl : (cutV (nms ks) none (some ((i : Nat) : Int))).all flatV = true := by
        rw [cut_to, nms_eq, ← List.map_take]
        exact UL.flat_strs _
      have s3' := s3.trans (same_new (o := .tup [V.int ((i : Nat) : Int), V.str k.n]) hT1)
      cases hb : dupB (ksn ks) i with
      | true =>
        rw [hb] at inn
        subst eks
        rw [bout_dup no hik hb nd, gD] at kE
        walk_at "go"
        rename_i w hw d hd
        exact kE _ _ rfl d _ (UL.Same.none s3' (up_none hd)) upd_same (s3'.trans ((same_new hw).trans (same_new hd)))
      | false =>
        rw [hb] at inn
        walk_at "go"
        rename_i w hw
        exact Hold.mk ⟨_, _, _, rfl, s3'.trans (same_new hw), by walk_at "look", fun j hj => by
          by_cases c : j < i
          · exact nd j c
          · have : j = i := by omega
            rw [this]
            exact hb⟩
    obtain ⟨a, b, c, es, s3, hd3, nd⟩ := hh.out
    clear hh
    subst es
    have hkt3 := s3 _ _ hkt
    have hx3 := s3 _ _ hx
    have hE3 : Each (KindAt ad H3) kvs ks := hE.imp fun v k q => q.same s3
    have nd' : ∀ j, j < ks.length → dupB (ksn ks) j = false := fun j hj => nd j (by rw [nms, List.length_map]; exact hj)
    have be : bout ts = if 5 < ks.length then .many else if ks.length = 0 then .book else .made ks := by
      have := bout_rest no (by rw [eks]; exact nd')
      rw [eks] at this
      exact this
    rw [be] at kE kk
    by_cases c5 : 5 < ks.length
    · rw [if_pos c5] at kE
      walk_at "go"
      rename_i d hd
      exact kE _ _ rfl d _ (UL.Same.none s3 hd) upd_same (s3.trans (same_new hd))
    by_cases c0 : ks.length = 0
    · rw [if_neg c5, if_pos c0] at kE
      walk_at "go"
      rename_i d hd
      exact kE _ _ rfl d _ (UL.Same.none s3 hd) upd_same (s3.trans (same_new hd))
    rw [if_neg c5, if_neg c0] at kk
    have okb : bok ks := ⟨hok, nodup_of (ns := ksn ks) (fun j hj => nd' j (by rw [ksn, List.length_map] at hj; exact hj)), by omega, by omega⟩
    have kk := kk ks rfl okb hE
    walk_at "go"
    rename_i l hl
    obtain ⟨pvs, lp, hP, hpk⟩ := parts_of hE3
    have pt : ∀ H4, Stay x H3 H4 → PartsAt H4 pvs ks := fun H4 st => hP.imp fun v k ⟨p, e, hp⟩ => ⟨p, e, st _ _ (ne_of hp hx3 (by intro z; cases z)) hp⟩
    refine ⟨⟨kvs, SqT.of (by walk_at "look")⟩, fun D2 hD2 => lc_same (walk_tup (xs := kvs)) hD2 (fun i => pvs.getD i .non) (by omega) (fun H5 s5 => SqT.of (s5 _ _ (by walk_at "look"))) (fun i y H5 H' hi s5 hy R hR => ?_) (fun H5 s5 hd5 => ?_)⟩
    · obtain ⟨rfl, hy⟩ := hy
      obtain ⟨k, hk, _⟩ := hE3.at hy
      obtain ⟨b, db, p, rfl, h1, h2⟩ := hpk i _ k hy hk
      have ei : pvs.getD i .non = .ref p := by simp [h2]
      rw [ei] at hR
      have st : Stay x H3 H' := Stay.trans (by walk_at "stay") (UL.Same.stay s5 x)
      have h5 := st _ _ (ne_of h1 hx3 (by intro z; simp [kfs] at z)) h1
      walk_at "go"
      exact hR _ (L2.Same.refl _)
    rw [← lp, range_getD] at hd5
    walk_at "go"
    rename_i m hm
    exact kk l m pvs _ (by walk_at "look") (by walk_at "look") (pt _ (by walk_at "stay")) (by walk_at "look") (Stay.trans (UL.Same.stay s3 x) (by walk_at "stay"))
end
end K25
set_option Elab.async false
set_option linter.all false
set_option maxRecDepth 100000
set_option maxHeartbeats 4000000


namespace K25
open PySem L2 UL ClX
local macro_rules | `(tactic| walk_at "txt") => `(tactic| first
  | ((with_reducible show L2.SqT _ _ _ _); first | exact Txt.t_GROUPS (by assumption) _ | exact Txt.t_ALIGNMENTS (by assumption) _ | exact Txt.t_SIZES (by assumption) _)
  | ((with_reducible show L2.Cls _ _); first | exact UL.CIsi.cl (Txt.i_Kind (by assumption)) | exact UL.CIsi.cl (Txt.i_Book (by assumption)))
  | ((with_reducible show UL.CIsi _ _); first | exact Txt.i_Kind (by assumption) | exact Txt.i_Book (by assumption))
  | ((with_reducible show L2.NoAttr _ _ _); first | exact Txt.n_Kind_name (by assumption) | exact Txt.n_Kind_group (by assumption) | exact Txt.n_Kind_size (by assumption) | exact Txt.n_Kind_width (by assumption) | exact Txt.n_Kind_align (by assumption) | exact Txt.n_Kind_parts (by assumption) | exact Txt.n_Book_kinds (by assumption) | exact Txt.n_Book_names (by assumption) | exact Txt.n_Book_parts (by assumption))
  | ((with_reducible show L2.TyX _ _ _ _); first | exact UL.CIsi.ty (Txt.i_Kind (by assumption)) (by walk_at "look") | exact UL.CIsi.ty (Txt.i_Book (by assumption)) (by walk_at "look"))
  | ((with_reducible show PySem.W.kitOne _ (.type _) (.ref _) = _); first | exact ((Txt.k_Kind (by assumption)) _ (by simp)).1 | exact ((Txt.k_Book (by assumption)) _ (by simp)).1)
  | ((with_reducible show _ = PySem.Value.ref _ ∨ _); first | exact .inl rfl | exact .inr ⟨_, rfl, Txt.no_Kind (by assumption)⟩)
  | fail)
section
variable {P : Program} {w : World} {K : PySem.W.Frag} {mg : Str → Option Value} {base : Heap} {ad : Ad}
/-- a book made of what is written, or its error -/
@[irreducible] def spBookRX (K : PySem.W.Frag) (ad : Ad) : Sp := fun vs H Q E => ∃ (x dx : Addr) (kvs : List V) (ts : List Th), vs = .ref x :: kvs ∧ Each (ThAt K ad H) kvs ts ∧ ts.length ≤ 1000 ∧ H x = some (.ins ad.c_Book dx []) ∧
  (∀ C fs, berr ad (bout ts) = some (C, fs) → ∀ d H', H d = none → H' d = some (.xd fs) → L2.Same H H' → E (.ref C) (some d) H') ∧ (∀ ks, bout ts = .made ks → ∀ H', Stay x H H' → BookAt ad H' (.ref x) ks → Q .non H')
theorem sp_Book_init : FnScope ["self", "kinds", "kind", "names", "position", "name"] ((["self"] : List Str) ++ (["kinds"] : List Str)) (defScope st_Book_init) := sc_Book_init
theorem r_Book_init {f : Addr} {oc : Value} {od an : Option Addr} {osl : Array (Option Value)} {kV doc pm cdv ct : Value} (lk : K.lookup f = some ⟨oc, od, .func (PySem.W.fnOf "__init__" "Book.__init__" (defArgs st_Book_init) (defBody st_Book_init) (defScope st_Book_init) .none kV doc pm an cdv ct), osl⟩) (hcd : PySem.W.codeIn K cdv "Book.__init__" = true) (e_InvalidKind : MakE P w K mg base 1 "InvalidKind" ad.c_InvalidKind ["value"]) (c_Kind_name : CalP P w K mg base 1 ad.c_Kind "name" (spKGet ad fun k => .str k.n)) (e_InvalidName : MakE P w K mg base 1 "InvalidName" ad.c_InvalidName ["value"]) (e_TooMany : MakE P w K mg base 1 "TooMany" ad.c_TooMany ["what", "limit"]) (e_InvalidBook : MakE P w K mg base 1 "InvalidBook" ad.c_InvalidBook ["value"]) (c_Kind_parts : CalM P w K mg base 1 ad.c_Kind "parts" (spKParts ad)) (T : Txt K mg ad) : FnR P w K mg base (L2.CX P w) 3 f (spBookRX K ad) := by
  refine (StX.fn_star (ps := ["self"]) (pv := "kinds") (sp := (spBookX K ad)) lk hcd sp_Book_init StX.cxUp (StX.bind_star1 (B := fun us => bindArgs (PySem.W.fnOf "__init__" "Book.__init__" (defArgs st_Book_init) (defBody st_Book_init) (defScope st_Book_init) .none kV doc pm an cdv ct) ⟨us, []⟩) (p1 := "self") (pv := "kinds") (fun _  => rfl) fun _ _ _  => rfl) fun A outer s H vs Q E hr hsp => ?_).imp fun vs H Q E h => ?_
  · obtain ⟨t, ht, q⟩ := ok_Book_init e_InvalidKind c_Kind_name e_InvalidName e_TooMany e_InvalidBook c_Kind_parts T hr hsp
    exact ⟨t, ht, q⟩
  · unfold spBookRX at h; obtain ⟨x, dx, kvs, ts, rfl, hT, hz, hx, kE, kk⟩ := h
    refine ⟨[.ref x], kvs, rfl, rfl, line_ge (by rw [hT.1]; omega), fun p hp => ?_⟩
    have s1 := same_new (o := .tup kvs) hp
    have hx1 := s1 _ _ hx
    exact ⟨x, dx, p, kvs, ts, rfl, upd_same, hT.imp fun v t q => q.same s1, hz, hx1, fun C fs e d H' hd hf st => kE C fs e d H' (up_none hd) hf (s1.trans st),
      fun ks e ok hE nt pt pvs H' h1 h2 h3 h4 st => kk ks e H' (Stay.trans (UL.Same.stay s1 x) st) ⟨x, dx, p, nt, pt, kvs, pvs, rfl, h4, st _ _ (ne_new hp hx) upd_same, hE.imp fun v k q => q.stay hx1 st, h1, h2, h3, ok⟩⟩
/-- what making a book of these things comes to -/
def MakesB (ad : Ad) (ts : List Th) (H : Hp) (Q : VK) (E : XK) : Prop := (∀ C fs, berr ad (bout ts) = some (C, fs) → ∀ d H', H d = none → H' d = some (.xd fs) → L2.Same H H' → E (.ref C) (some d) H') ∧ (∀ ks, bout ts = .made ks → ∀ v' H', L2.Same H H' → BookAt ad H' v' ks → Q v' H')
theorem MakesB.same {ad : Ad} {ts : List Th} {H H' : Hp} {Q : VK} {E : XK} (m : MakesB ad ts H Q E) (s : L2.Same H H') : MakesB ad ts H' Q E :=
  ⟨fun C fs e d H2 hd hf st => m.1 C fs e d H2 (UL.Same.none s hd) hf (s.trans st), fun ks e v' H2 st hS => m.2 ks e v' H2 (s.trans st) hS⟩
/-- one step before a book is made -/
theorem bmadeX {H1 : Hp} {x dx : Addr} {kvs : List V} {ts : List Th} {Q : VK} {E : XK} (nx : H1 x = none) (nd : H1 dx = none) (ne : dx ≠ x) (hT : Each (ThAt K ad H1) kvs ts) (hz : ts.length ≤ 1000) (m : MakesB ad ts H1 Q E) :
    spBookRX K ad (.ref x :: kvs) (upd (upd H1 dx (.own x)) x (.ins ad.c_Book dx [])) (fun v H2 => v = .non ∧ Q (.ref x) H2) E := by
  have s1 : L2.Same H1 (upd H1 dx (.own x)) := same_new nd
  have n2 : upd H1 dx (.own x) x = none := by rw [upd_ne ne.symm]; exact nx
  have s2 := s1.trans (same_new (o := .ins ad.c_Book dx []) n2)
  unfold spBookRX
  exact ⟨x, dx, kvs, ts, rfl, hT.imp fun v k q => q.same s2, hz, upd_same, fun C fs e d H' hd hf st => m.1 C fs e d H' (UL.Same.none s2 hd) hf (s2.trans st), fun ks e H' st hb => ⟨rfl, m.2 ks e _ _ (fun b o e => st b o (ne_of_none e nx) (s2 b o e)) hb⟩⟩
def spBNames (ad : Ad) : Sp := fun vs H Q _ => ∃ v ks, vs = [v] ∧ BookAt ad H v ks ∧ ∀ l, H l = none → Q (.ref l) (upd H l (.lst (nms ks)))
abbrev st_Book_names : Stmt := inClass (top 27) 2
theorem sc_Book_names : FnScope ["self"] ["self"] (defScope st_Book_names) := ⟨rfl, rfl, rfl, by decide +kernel, rfl, by decide +kernel, by decide +kernel⟩
theorem ok_Book_names {f : Addr} {fd : FuncData} (F : Fun K "names" "Book.names" st_Book_names f fd) (T : Txt K mg ad)  :
    FnOk P w K mg base CX0 1 f fd ["self"] (spBNames ad) := by
  refine F.ok sc_Book_names (fun vs H Q E h => ?_) (fun cdv A outer s H vs Q E hr h => ?_)
  · obtain (⟨v, ks, rfl, ⟨a, dx, kt, nt, pt, kvs, pvs, rfl, h1, h2, h3, h4, h5, h6, ok⟩, q⟩) := h
    rfl
  · obtain (⟨v, ks, rfl, ⟨a, dx, kt, nt, pt, kvs, pvs, rfl, h1, h2, h3, h4, h5, h6, ok⟩, q⟩) := h
    refine ⟨_, pss_one (ps_ret (pe_callTy call_list_of (by rfl) T.bi.list (by decide +kernel) (pa_cons (pe_fld (pv 0) rfl) pa_nil))), ?_⟩
    walk_at "go"
    exact q _ (by assumption)
def spBKinds (ad : Ad) : Sp := fun vs H Q _ => ∃ v ks, vs = [v] ∧ BookAt ad H v ks ∧ ∀ l kvs, H l = none → Each (KindAt ad H) kvs ks → Q (.ref l) (upd H l (.lst kvs))
abbrev st_Book_kinds : Stmt := inClass (top 27) 1
theorem sc_Book_kinds : FnScope ["self"] ["self"] (defScope st_Book_kinds) := ⟨rfl, rfl, rfl, by decide +kernel, rfl, by decide +kernel, by decide +kernel⟩
theorem ok_Book_kinds {f : Addr} {fd : FuncData} (F : Fun K "kinds" "Book.kinds" st_Book_kinds f fd) (T : Txt K mg ad)  :
    FnOk P w K mg base CX0 1 f fd ["self"] (spBKinds ad) := by
  refine F.ok sc_Book_kinds (fun vs H Q E h => ?_) (fun cdv A outer s H vs Q E hr h => ?_)
  · obtain (⟨v, ks, rfl, ⟨a, dx, kt, nt, pt, kvs, pvs, rfl, h1, h2, h3, h4, h5, h6, ok⟩, q⟩) := h
    rfl
  · obtain (⟨v, ks, rfl, ⟨a, dx, kt, nt, pt, kvs, pvs, rfl, h1, h2, h3, h4, h5, h6, ok⟩, q⟩) := h
    refine ⟨_, pss_one (ps_ret (pe_callTy call_list_of (by rfl) T.bi.list (by decide +kernel) (pa_cons (pe_fld (pv 0) rfl) pa_nil))), ?_⟩
    walk_at "go"
    exact q _ _ (by assumption) h3
def spBAddX (K : PySem.W.Frag) (ad : Ad) : Sp := fun vs H Q E => ∃ v u ks t, vs = [v, u] ∧ BookAt ad H v ks ∧ ThAt K ad H u t ∧ MakesB ad (ks.map .kind ++ [t]) H Q E
abbrev st_Book_add : Stmt := inClass (top 27) 8
theorem sc_Book_add : FnScope ["self", "other", "kinds"] ["self", "other"] (defScope st_Book_add) := ⟨rfl, rfl, rfl, by decide +kernel, rfl, by decide +kernel, by decide +kernel⟩
theorem ok_Book_add {f : Addr} {fd : FuncData} (F : Fun K "__add__" "Book.__add__" st_Book_add f fd) (T : Txt K mg ad) (m_Book : MakRE P w K mg base 4 "Book" ad.c_Book (spBookRX K ad)) :
    FnOk P w K mg base (L2.CX P w) 6 f fd ["self", "other"] (spBAddX K ad) := by
  refine F.okX sc_Book_add (fun vs H Q E h => ?_) (fun cdv A outer s H vs Q E hr h => ?_)
  · obtain (⟨v, u, ks, t, rfl, ⟨a, dx, kt, nt, pt, kvs, pvs, rfl, h1, h2, h3, h4, h5, h6, ok0⟩, hu, m⟩) := h
    rfl
  · obtain (⟨v, u, ks, t, rfl, ⟨a, dx, kt, nt, pt, kvs, pvs, rfl, h1, h2, h3, h4, h5, h6, ok0⟩, hu, m⟩) := h
    refine ⟨_, pss_cons (ps_set (i := 2) sc_Book_add.nd rfl (.inl rfl) (pe_op op_catS (pe_fld (pv 0) rfl) (pe_tup (pa_cons (pv 1) pa_nil))))
      (pss_one (ps_ret (pe_nRSE m_Book (px_def rfl rfl rfl rfl) hr (by decide) (by rfl) (pv 2)))), ?_⟩
    have hl : kvs.length ≤ 5 := by
      have := ok0.hi
      rw [h3.1]
      omega
    have nz : kvs ≠ [] := by
      intro z
      have := ok0.lo
      rw [← h3.1, z] at this
      exact absurd this (by simp)
    walk_at "go"
    rename_i p1 hp1 hw p hp x dx nx nd ne
    have s : L2.Same H hw := by walk_at "same"
    refine bmadeX nx nd ne (Each.app (us := [u]) (es := [t]) ?_ (Each.one (hu.same s))) (by rw [List.length_append, List.length_map, ← h3.1]; simp; omega) (m.same s)
    refine ⟨by rw [h3.1, List.length_map], fun i v k e1 e2 => ?_⟩
    rw [List.getElem?_map] at e2
    obtain ⟨k', e3, rfl⟩ := Option.map_eq_some_iff.mp e2
    exact ⟨(h3.2 i v k' e1 e3).same s, ok0.ok k' (List.mem_of_getElem? e3)⟩
end
end K25
set_option Elab.async false
set_option linter.all false
set_option maxRecDepth 100000
set_option maxHeartbeats 4000000


namespace K25
open PySem L2 UL ClX
local macro_rules | `(tactic| walk_at "txt") => `(tactic| first
  | ((with_reducible show L2.SqT _ _ _ _); first | exact Txt.t_GROUPS (by assumption) _ | exact Txt.t_ALIGNMENTS (by assumption) _ | exact Txt.t_SIZES (by assumption) _)
  | ((with_reducible show L2.Cls _ _); first | exact UL.CIsi.cl (Txt.i_Kind (by assumption)) | exact UL.CIsi.cl (Txt.i_Book (by assumption)))
  | ((with_reducible show UL.CIsi _ _); first | exact Txt.i_Kind (by assumption) | exact Txt.i_Book (by assumption))
  | ((with_reducible show L2.NoAttr _ _ _); first | exact Txt.n_Kind_name (by assumption) | exact Txt.n_Kind_group (by assumption) | exact Txt.n_Kind_size (by assumption) | exact Txt.n_Kind_width (by assumption) | exact Txt.n_Kind_align (by assumption) | exact Txt.n_Kind_parts (by assumption) | exact Txt.n_Book_kinds (by assumption) | exact Txt.n_Book_names (by assumption) | exact Txt.n_Book_parts (by assumption))
  | ((with_reducible show L2.TyX _ _ _ _); first | exact UL.CIsi.ty (Txt.i_Kind (by assumption)) (by walk_at "look") | exact UL.CIsi.ty (Txt.i_Book (by assumption)) (by walk_at "look"))
  | ((with_reducible show PySem.W.kitOne _ (.type _) (.ref _) = _); first | exact ((Txt.k_Kind (by assumption)) _ (by simp)).1 | exact ((Txt.k_Book (by assumption)) _ (by simp)).1)
  | ((with_reducible show _ = PySem.Value.ref _ ∨ _); first | exact .inl rfl | exact .inr ⟨_, rfl, Txt.no_Kind (by assumption)⟩)
  | fail)
section
variable {P : Program} {w : World} {K : PySem.W.Frag} {mg : Str → Option Value} {base : Heap} {ad : Ad}
/-- _law_pick(pot, some): one of them -/
def spPick1 (K : PySem.W.Frag) : Sp := fun vs H Q _ => ∃ (p l : Addr) (xs : List V), vs = [.ref p, .ref l] ∧ Pot H p ∧ l ≠ p ∧ SqL K H l xs ∧ 0 < xs.length ∧ xs.length < 1073741824 ∧
  ∀ (i : Nat) (v : V) (H' : Hp), xs[i]? = some v → Pot H' p → Stay p H H' → Q v H'
/-- _law_pot(script, k): a new pot -/
def spPot (K : PySem.W.Frag) : Sp := fun vs H Q _ => ∃ (a : Addr) (ns : List Int) (k : Int), vs = [.ref a, .int k] ∧ SqL K H a (ns.map V.int) ∧ 0 ≤ k ∧ k ≤ 100 ∧
  ∀ (p : Addr) (H' : Hp), H p = none → Pot H' p → L2.Same H H' → Q (.ref p) H'
abbrev st_l_draw : Stmt := top 30
theorem sc_l_draw : FnScope ["_law_pot_here", "_law_much", "_law_digit"] ["_law_pot_here", "_law_much"] (defScope st_l_draw) := ⟨rfl, rfl, rfl, by decide +kernel, rfl, by decide +kernel, by decide +kernel⟩
theorem ok_l_draw {f : Addr} {fd : FuncData} (F : Fun K "_law_draw" "_law_draw" st_l_draw f fd) (T : Txt K mg ad)  :
    FnOk P w K mg base CX0 1 f fd ["_law_pot_here", "_law_much"] spDraw := by
  refine F.ok sc_l_draw (fun vs H Q E h => ?_) (fun cdv A outer s H vs Q E hr h => ?_)
  · obtain (⟨p, n, rfl, ⟨a, b, hp, hb0, hb1⟩, hn0, hn1, k⟩) := h
    rfl
  · obtain (⟨p, n, rfl, ⟨a, b, hp, hb0, hb1⟩, hn0, hn1, k⟩) := h
    refine ⟨_, pss_cons (ps_if (pt_cmpR op_gt (pe_ix ix_list (pv 0) pe_int (fun _ _ => rfl)) pe_int (nomark _)) (pss_cons (ps_asg (pe_callB call_divmod (by rfl) T.bi.divmod (by decide +kernel) (pa_cons (pe_ix ix_list (pv 0) pe_int (fun _ _ => rfl)) (pa_cons (pv 1) pa_nil))) (pg_tup rfl (pgs_cons (pg_sub (pv 0) pe_int set_list) (pgs_cons (pg_name (i := 2) sc_l_draw.nd rfl (Or.inl rfl)) pgs_nil))))
          (pss_one (ps_ret (pv 2)))) pss_nil)
      (pss_cons (ps_asg (pe_op op_mod (pe_callTy call_int1 (by rfl) T.bi.int (by decide +kernel) (pa_cons (pe_op op_add (pe_op op_mul (pe_ix ix_list (pv 0) pe_int (fun _ _ => rfl)) pe_int) pe_int) pa_nil)) pe_int) (pg_sub (pv 0) pe_int set_list))
      (pss_one (ps_ret (pe_op op_mod (pe_callTy call_int1 (by rfl) T.bi.int (by decide +kernel) (pa_cons (pe_op op_fdiv (pe_op op_mod (pe_callTy call_int1 (by rfl) T.bi.int (by decide +kernel) (pa_cons (pe_op op_mul (pe_ix ix_list (pv 0) pe_int (fun _ _ => rfl)) (pe_ix ix_list (pv 0) pe_int (fun _ _ => rfl))) pa_nil)) pe_int) pe_int) pa_nil)) (pv 1))))), ?_⟩
    -- if pot[0] > 0
    refine ⟨_, rfl, p, _, _, _, rfl, rfl, SqL.of hp, atI_nat (j := 0) rfl, _, _, rfl, rfl, _, rfl, ?_⟩
    by_cases c : 0 < a
    · rw [decide_eq_true c]
      refine iteT ?_
      refine ⟨_, rfl, p, _, _, _, rfl, rfl, SqL.of hp, atI_nat (j := 0) rfl, _, rfl, _, _, rfl, ⟨hn0, hn1⟩, fun t ht => ?_⟩
      have npt : p ≠ t := ne_of_none hp ht
      refine ⟨t, _, rfl, SqT.of upd_same, rfl, _, _, rfl, _, rfl, p, _, _, 0, rfl, rfl, (by rw [upd_ne npt]; exact hp), rfl, _, _, rfl, rfl, ?_⟩
      refine ⟨_, rfl, ?_⟩
      refine k _ _ (Int.emod_nonneg _ (by omega)) (Int.emod_lt_of_pos _ hn0) ⟨_, b, upd_same, hb0, hb1⟩ fun u o hu e => ?_
      rw [upd_ne hu, upd_ne (ne_of_none e ht)]
      exact e
    · rw [decide_eq_false c]
      refine iteF ?_
      refine ⟨_, rfl, p, _, _, _, rfl, rfl, SqL.of hp, atI_nat (j := 1) rfl, _, _, rfl, rfl, .inr ⟨by decide, by decide⟩, _, _, rfl, rfl, .inl ⟨_, rfl, _, _, rfl, rfl, (by show (0 : Int) < 2147483587; decide), ?_⟩⟩
      refine ⟨_, rfl, p, _, _, 1, rfl, rfl, hp, rfl, ?_⟩
      have e1 : 0 ≤ (b * 48271 + 12161) % 2147483587 := Int.emod_nonneg _ (by decide)
      have e2 : (b * 48271 + 12161) % 2147483587 < 2147483587 := Int.emod_lt_of_pos _ (by decide)
      dsimp only [List.set]
      generalize (b * 48271 + 12161) % 2147483587 = z at e1 e2 ⊢
      refine ⟨_, rfl, p, _, _, _, rfl, rfl, SqL.of upd_same, atI_nat (j := 1) rfl, _, rfl, p, _, _, _, rfl, rfl, SqL.of upd_same, atI_nat (j := 1) rfl, _, _, rfl, rfl, .inl ⟨by omega, by omega⟩, .inl ⟨_, rfl, _, _, rfl, rfl, (by show (0 : Int) < 2147483549; decide), _, _, rfl, rfl, ⟨by decide, by decide⟩,
        .inl ⟨_, rfl, _, rfl, _, _, rfl, rfl, hn0, ?_⟩⟩⟩
      exact k _ _ (Int.emod_nonneg _ (by omega)) (Int.emod_lt_of_pos _ hn0) ⟨a, z, upd_same, e1, by omega⟩ stay_upd
abbrev st_l_pick : Stmt := top 31
theorem sc_l_pick : FnScope ["_law_pot_here", "_law_some"] ["_law_pot_here", "_law_some"] (defScope st_l_pick) := ⟨rfl, rfl, rfl, by decide +kernel, rfl, by decide +kernel, by decide +kernel⟩
theorem ok_l_pick {f : Addr} {fd : FuncData} (F : Fun K "_law_pick" "_law_pick" st_l_pick f fd) (T : Txt K mg ad) (c_l_draw : Cal P w K mg base 1 "_law_draw" spDraw) :
    FnOk P w K mg base CX0 2 f fd ["_law_pot_here", "_law_some"] (spPick1 K) := by
  refine F.ok sc_l_pick (fun vs H Q E h => ?_) (fun cdv A outer s H vs Q E hr h => ?_)
  · obtain (⟨p, l, xs, rfl, hp, hne, hS, h0, h1, k⟩) := h
    rfl
  · obtain (⟨p, l, xs, rfl, hp, hne, hS, h0, h1, k⟩) := h
    refine ⟨_, pss_one (ps_ret (pe_ix ix_list (pv 1) (pe_c c_l_draw hr (by decide) (by rfl) (pa_cons (pv 0) (pa_cons (pe_callB call_len_seq (by rfl) T.bi.len (by decide +kernel) (pa_cons (pv 1) pa_nil)) pa_nil))) (fun _ _ => rfl))), ?_⟩
    refine ⟨_, rfl, _, rfl, _, rfl, l, xs, rfl, .inl hS, p, (xs.length : Int), rfl, hp, by omega, by omega, fun d H' d0 d1 hp' st => ?_⟩
    obtain ⟨j, rfl⟩ : ∃ j : Nat, d = (j : Int) := ⟨d.toNat, by omega⟩
    have hj : j < xs.length := by omega
    exact ⟨l, xs, _, xs[j], rfl, rfl, Stay.seqL st hne hS, atI_nat (List.getElem?_eq_getElem hj), k j _ H' (List.getElem?_eq_getElem hj) hp' st⟩
theorem pot_b (z k : Int) : 0 ≤ (z % 2147483549 + 11) * (2 * k + 3) ^ 3 % 2147483477 + 1 ∧ (z % 2147483549 + 11) * (2 * k + 3) ^ 3 % 2147483477 + 1 < 4294967296 := by
  have h1 := Int.emod_nonneg ((z % 2147483549 + 11) * (2 * k + 3) ^ 3) (show (2147483477 : Int) ≠ 0 by decide)
  have h2 := Int.emod_lt_of_pos ((z % 2147483549 + 11) * (2 * k + 3) ^ 3) (show (0 : Int) < 2147483477 by decide)
  omega
abbrev st_l_pot : Stmt := top 29
theorem sc_l_pot : FnScope ["_law_script", "_law_k", "_law_cell"] ["_law_script", "_law_k"] (defScope st_l_pot) := ⟨rfl, rfl, rfl, by decide +kernel, rfl, by decide +kernel, by decide +kernel⟩
theorem ok_l_pot {f : Addr} {fd : FuncData} (F : Fun K "_law_pot" "_law_pot" st_l_pot f fd) (T : Txt K mg ad)  :
    FnOk P w K mg base CX0 1 f fd ["_law_script", "_law_k"] (spPot K) := by
  refine F.ok sc_l_pot (fun vs H Q E h => ?_) (fun cdv A outer s H vs Q E hr h => ?_)
  · obtain (⟨a, ns, i, rfl, hS, i0, i1, k⟩) := h
    rfl
  · obtain (⟨a, ns, i, rfl, hS, i0, i1, k⟩) := h
    refine ⟨_, pss_cons (ps_set (i := 2) sc_l_pot.nd rfl (.inl rfl) (pe_op op_add (pe_op op_mul pe_int (pv 1)) pe_int))
      (pss_cons (ps_if (pt_cmpR op_lt (pv 1) (pe_callB call_len_seq (by rfl) T.bi.len (by decide +kernel) (pa_cons (pv 0) pa_nil)) (nomark _)) (pss_one (ps_set (i := 2) sc_l_pot.nd rfl (.inl rfl) (pe_callB call_abs (by rfl) T.bi.abs (by decide +kernel) (pa_cons (pe_ix ix_list (pv 0) (pv 1) (fun _ _ => rfl)) pa_nil)))) pss_nil)
      (pss_one (ps_ret (pe_lst (pa_cons (pe_callB (call_max2 rfl) (by rfl) T.bi.max (by decide +kernel) (pa_cons pe_int (pa_cons (pe_op op_sub (pv 2) (pe_op op_pow pe_int pe_int)) pa_nil))) (pa_cons (pe_op op_add (pe_op op_mod (pe_op op_mul (pe_callTy call_int1 (by rfl) T.bi.int (by decide +kernel) (pa_cons (pe_op op_add (pe_op op_mod (pe_callTy call_int1 (by rfl) T.bi.int (by decide +kernel) (pa_cons (pv 2) pa_nil)) pe_int) pe_int) pa_nil)) (pe_op op_pow (pe_op op_add (pe_op op_mul pe_int (pv 1)) pe_int) pe_int)) pe_int) pe_int) pa_nil)))))), ?_⟩
    refine ⟨_, rfl, _, _, rfl, rfl, .inl ⟨by decide, by decide⟩, _, _, rfl, rfl, ?_⟩
    refine ⟨_, rfl, _, rfl, a, _, rfl, .inl hS, _, _, rfl, rfl, _, rfl, ?_⟩
    have m1 : ∀ z : Int, -(2 ^ 64) < z % 2147483549 + 11 ∧ z % 2147483549 + 11 < 2 ^ 64 := fun z => by
      have h1 := Int.emod_nonneg z (show (2147483549 : Int) ≠ 0 by decide)
      have h2 := Int.emod_lt_of_pos z (show (0 : Int) < 2147483549 by decide)
      omega
    by_cases c : i < ((ns.map V.int).length : Int)
    · rw [decide_eq_true c]
      rw [List.length_map] at c
      obtain ⟨j, rfl⟩ : ∃ j : Nat, i = (j : Int) := ⟨i.toNat, by omega⟩
      have hj : j < ns.length := by omega
      refine iteT ⟨_, rfl, _, rfl, a, _, _, V.int ns[j], rfl, rfl, hS, atI_nat (by rw [List.getElem?_map, List.getElem?_eq_getElem hj]; rfl), _, rfl, ?_⟩
      generalize (if ns[j] < 0 then -ns[j] else ns[j]) = z
      refine ⟨_, rfl, _, _, rfl, rfl, ⟨by decide, by decide, by decide⟩, _, _, rfl, rfl, 0, _, rfl, ?_⟩
      refine ⟨_, rfl, .inl ⟨z, rfl, _, _, rfl, rfl, (by show (0 : Int) < 2147483549; decide), _, _, rfl, rfl, .inl ⟨_, rfl, _, rfl, _, _, rfl, rfl, .inl ⟨by decide, by decide⟩, _, _, rfl, rfl, _, _, rfl, rfl, ⟨by decide, by decide, by omega⟩, _, _, rfl, rfl,
        .inl (m1 z), _, _, rfl, rfl, (by show (0 : Int) < 2147483477; decide), _, _, rfl, rfl, (by show 2 ≤ sizeLine; decide), fun q hq => ?_⟩⟩⟩
      exact k q _ hq ⟨_, _, upd_same, pot_b z _⟩ (same_new hq)
    · rw [decide_eq_false c]
      refine iteF ?_
      refine ⟨_, rfl, _, _, rfl, rfl, ⟨by decide, by decide, by decide⟩, _, _, rfl, rfl, 0, _, rfl, ?_⟩
      refine ⟨_, rfl, .inl ⟨31 * i + 6, rfl, _, _, rfl, rfl, (by show (0 : Int) < 2147483549; decide), _, _, rfl, rfl, .inl ⟨_, rfl, _, rfl, _, _, rfl, rfl, .inl ⟨by decide, by decide⟩, _, _, rfl, rfl, _, _, rfl, rfl, ⟨by decide, by decide, by omega⟩, _, _, rfl, rfl,
        .inl (m1 _), _, _, rfl, rfl, (by show (0 : Int) < 2147483477; decide), _, _, rfl, rfl, (by show 2 ≤ sizeLine; decide), fun q hq => ?_⟩⟩⟩
      exact k q _ hq ⟨_, _, upd_same, pot_b _ _⟩ (same_new hq)
end
end K25
set_option Elab.async false
set_option linter.all false
set_option maxRecDepth 100000
set_option maxHeartbeats 4000000


namespace K25
open PySem L2 UL ClX
local macro_rules | `(tactic| walk_at "txt") => `(tactic| first
  | ((with_reducible show L2.SqT _ _ _ _); first | exact Txt.t_GROUPS (by assumption) _ | exact Txt.t_ALIGNMENTS (by assumption) _ | exact Txt.t_SIZES (by assumption) _)
  | ((with_reducible show L2.Cls _ _); first | exact UL.CIsi.cl (Txt.i_Kind (by assumption)) | exact UL.CIsi.cl (Txt.i_Book (by assumption)))
  | ((with_reducible show UL.CIsi _ _); first | exact Txt.i_Kind (by assumption) | exact Txt.i_Book (by assumption))
  | ((with_reducible show L2.NoAttr _ _ _); first | exact Txt.n_Kind_name (by assumption) | exact Txt.n_Kind_group (by assumption) | exact Txt.n_Kind_size (by assumption) | exact Txt.n_Kind_width (by assumption) | exact Txt.n_Kind_align (by assumption) | exact Txt.n_Kind_parts (by assumption) | exact Txt.n_Book_kinds (by assumption) | exact Txt.n_Book_names (by assumption) | exact Txt.n_Book_parts (by assumption))
  | ((with_reducible show L2.TyX _ _ _ _); first | exact UL.CIsi.ty (Txt.i_Kind (by assumption)) (by walk_at "look") | exact UL.CIsi.ty (Txt.i_Book (by assumption)) (by walk_at "look"))
  | ((with_reducible show PySem.W.kitOne _ (.type _) (.ref _) = _); first | exact ((Txt.k_Kind (by assumption)) _ (by simp)).1 | exact ((Txt.k_Book (by assumption)) _ (by simp)).1)
  | ((with_reducible show _ = PySem.Value.ref _ ∨ _); first | exact .inl rfl | exact .inr ⟨_, rfl, Txt.no_Kind (by assumption)⟩)
  | fail)
section
variable {P : Program} {w : World} {K : PySem.W.Frag} {mg : Str → Option Value} {base : Heap} {ad : Ad}
def spRow : Sp := fun vs H Q _ => ∃ (p : Addr) (n : Str), vs = [.ref p, .str n] ∧ Pot H p ∧ isNm n ∧ ∀ (t : Addr) (k : KD) (H' : Hp), k.n = n → k.ok → H' t = some (.tup (kparts k)) → Pot H' p → Stay p H H' → Q (.ref t) H'
abbrev st_l_row : Stmt := top 33
theorem sc_l_row : FnScope ["_law_pot_here", "_law_label", "_law_bulk", "_law_least", "_law_top", "_law_wide", "_law_step"] ["_law_pot_here", "_law_label"] (defScope st_l_row) := ⟨rfl, rfl, rfl, by decide +kernel, rfl, by decide +kernel, by decide +kernel⟩
theorem ok_l_row {f : Addr} {fd : FuncData} (F : Fun K "_law_row" "_law_row" st_l_row f fd) (T : Txt K mg ad) (c_l_pick : Cal P w K mg base 2 "_law_pick" (spPick1 K)) (c_l_draw : Cal P w K mg base 1 "_law_draw" spDraw) :
    FnOk P w K mg base CX0 3 f fd ["_law_pot_here", "_law_label"] spRow := by
  refine F.ok sc_l_row (fun vs H Q E h => ?_) (fun cdv A outer s H vs Q E hr h => ?_)
  · obtain (⟨p, n, rfl, hp, hn, q⟩) := h
    rfl
  · obtain (⟨p, n, rfl, hp, hn, q⟩) := h
    refine ⟨_, pss_cons (ps_set (i := 2) sc_l_row.nd rfl (.inl rfl) (pe_c c_l_pick hr (by decide) (by rfl) (pa_cons (pv 0) (pa_cons (pe_lst (pa_cons pe_int (pa_cons pe_int (pa_cons pe_int (pa_cons pe_int (pa_cons pe_int (pa_cons pe_int pa_nil))))))) pa_nil))))
      (pss_cons (ps_par (i := 3) (j := 4) rfl sc_l_row.nd rfl rfl (by decide) rfl rfl (pa_cons (pe_ifExp (pt_cmpR op_eq (pv 2) pe_int (nomark _)) pe_int pe_int) (pa_cons (pe_op op_mul pe_int (pv 2)) pa_nil)) (by rfl))
      (pss_cons (ps_set (i := 5) sc_l_row.nd rfl (.inl rfl) (pe_c c_l_pick hr (by decide) (by rfl) (pa_cons (pv 0) (pa_cons (pe_lst (pa_cons (pv 4) (pa_cons (pv 4) (pa_cons (pv 3) (pa_cons (pe_op op_sub (pv 4) pe_int) (pa_cons (pe_op op_add (pv 3) (pe_c c_l_draw hr (by decide) (by rfl) (pa_cons (pv 0) (pa_cons (pe_op op_add (pe_op op_sub (pv 4) (pv 3)) pe_int) pa_nil)))) pa_nil)))))) pa_nil))))
      (pss_cons (ps_set (i := 6) sc_l_row.nd rfl (.inl rfl) (pe_c c_l_pick hr (by decide) (by rfl) (pa_cons (pv 0) (pa_cons (pe_lst (pa_cons (pv 2) (pa_cons (pv 2) (pa_cons pe_int (pa_cons pe_int (pa_cons pe_int (pa_cons pe_int (pa_cons pe_int pa_nil)))))))) pa_nil))))
      (pss_one (ps_ret (pe_tup (pa_cons (pv 1) (pa_cons (pe_c c_l_pick hr (by decide) (by rfl) (pa_cons (pv 0) (pa_cons (pe_lst (pa_cons pe_str (pa_cons pe_str (pa_cons pe_str pa_nil)))) pa_nil))) (pa_cons (pv 2) (pa_cons (pv 5) (pa_cons (pv 6) pa_nil))))))))))), ?_⟩
    walk_at "go"
    rename_i l1 hl1 i1 v1 H1 e1 hp1 st1
    obtain ⟨s, hs, rfl⟩ := at_ints (ns := [1, 2, 4, 8, 8, 16]) e1
    have s5 : s = 1 ∨ s = 2 ∨ s = 4 ∨ s = 8 ∨ s = 16 := by simpa using hs
    refine ⟨rfl, _, rfl, ite_val (.int (if s = 16 then 65 else 2)) (fun c Q hQ => ?_) (fun c Q hQ => ?_) ?_⟩
    · rw [if_pos (by simpa using c)] at hQ
      exact hQ
    · rw [if_neg (by simpa using c)] at hQ
      exact hQ
    have hL : (if s = 16 then (65 : Int) else 2) = 65 ∧ s = 16 ∨ (if s = 16 then (65 : Int) else 2) = 2 ∧ s ≠ 16 := by
      by_cases c : s = 16
      · rw [if_pos c]
        exact .inl ⟨rfl, c⟩
      · rw [if_neg c]
        exact .inr ⟨rfl, c⟩
    generalize hl : (if s = 16 then (65 : Int) else 2) = L at hL ⊢
    walk_at "go"
    rename_i d H2 d0 d1 hp2 st2 l2 hl2 i2 v2 H3 e2 hp3 st3 l3 hl3 i3 v3 H4 e3 hp4 st4 l4 hl4 i4 v4 H5 e4 hp5 st5 t ht
    obtain ⟨w', hw, rfl⟩ := at_ints (ns := [8 * s, 8 * s, L, 8 * s - 1, L + d]) e2
    obtain ⟨a', ha, rfl⟩ := at_ints (ns := [s, s, 1, 2, 4, 8, 16]) e3
    obtain ⟨g, hg, rfl⟩ := at_strs (ns := ["whole", "whole", "float"]) e4
    refine q t ⟨n, g, s, w', a'⟩ _ rfl ⟨hn, ?_, ?_, ?_, ?_, ?_⟩ (by walk_at "look") (by walk_at "pot") (by walk_at "stay")
    · simp only [List.mem_cons, List.mem_nil_iff, or_false] at hg
      rcases hg with rfl | rfl | rfl <;> (dsimp only; decide +kernel)
    · rcases s5 with rfl | rfl | rfl | rfl | rfl <;> (dsimp only; decide +kernel)
    · show (if s = 16 then (65 : Int) else 2) ≤ w'
      rw [hl]
      simp only [List.mem_cons, List.mem_nil_iff, or_false] at hw
      omega
    · show w' ≤ 8 * s
      simp only [List.mem_cons, List.mem_nil_iff, or_false] at hw
      omega
    · show inV (.int a') _ = true
      simp only [List.mem_cons, List.mem_nil_iff, or_false] at ha
      have : a' = 1 ∨ a' = 2 ∨ a' = 4 ∨ a' = 8 ∨ a' = 16 := by omega
      rcases this with rfl | rfl | rfl | rfl | rfl <;> decide +kernel
def spKindL (ad : Ad) : Sp := fun vs H Q _ => ∃ (p t : Addr) (k : KD), vs = [.ref p, .ref t] ∧ Pot H p ∧ H t = some (.tup (kparts k)) ∧ k.ok ∧ ∀ (v : V) (H' : Hp), KindAt ad H' v k → Pot H' p → Stay p H H' → Q v H'
abbrev st_l_kind : Stmt := top 34
theorem sc_l_kind : FnScope ["_law_pot_here", "_law_row_here", "_law_label", "_law_sort", "_law_bulk", "_law_wide", "_law_step", "_law_way"] ["_law_pot_here", "_law_row_here"] (defScope st_l_kind) := ⟨rfl, rfl, rfl, by decide +kernel, rfl, by decide +kernel, by decide +kernel⟩
theorem ok_l_kind {f : Addr} {fd : FuncData} (F : Fun K "_law_kind" "_law_kind" st_l_kind f fd) (T : Txt K mg ad) (c_l_draw : Cal P w K mg base 1 "_law_draw" spDraw) (m_Kind_2_size : MakN P w K mg base 3 "Kind" ad.c_Kind 2 ["size"] gKA (spKindI ad)) (m_Kind_0_name_align_width_size : MakK P w K mg base 3 "Kind" ad.c_Kind ["name", "align", "width", "size"] gKB (spKindI ad)) (m_Kind_2_size_width_align : MakN P w K mg base 3 "Kind" ad.c_Kind 2 ["size", "width", "align"] gKC (spKindI ad)) :
    FnOk P w K mg base CX0 5 f fd ["_law_pot_here", "_law_row_here"] (spKindL ad) := by
  refine F.ok sc_l_kind (fun vs H Q E h => ?_) (fun cdv A outer s H vs Q E hr h => ?_)
  · obtain (⟨p, t, k, rfl, hp, ht, ok, q⟩) := h
    rfl
  · obtain (⟨p, t, k, rfl, hp, ht, ok, q⟩) := h
    refine ⟨_, pss_cons (ps_asg (pv 1) (pg_tup rfl (pgs_cons (pg_name (i := 2) sc_l_kind.nd rfl (Or.inl rfl)) (pgs_cons (pg_name (i := 3) sc_l_kind.nd rfl (Or.inl rfl)) (pgs_cons (pg_name (i := 4) sc_l_kind.nd rfl (Or.inl rfl)) (pgs_cons (pg_name (i := 5) sc_l_kind.nd rfl (Or.inl rfl)) (pgs_cons (pg_name (i := 6) sc_l_kind.nd rfl (Or.inl rfl)) pgs_nil)))))))
      (pss_cons (ps_set (i := 7) sc_l_kind.nd rfl (.inl rfl) (pe_c c_l_draw hr (by decide) (by rfl) (pa_cons (pv 0) (pa_cons pe_int pa_nil))))
      (pss_cons (ps_if (PW.pt (pw_and (pt_cmpR op_eq (pv 7) pe_int (nomark _)) (pw_and (pt_cmpR op_eq (pv 5) (pe_op op_mul pe_int (pv 4)) (nomark _)) (pw_and1 (pt_cmpR op_eq (pv 6) (pv 4) (nomark _)))))) (pss_one (ps_ret (pe_nN m_Kind_2_size hr (by decide) (by rfl) (pa_cons (pv 2) (pa_cons (pv 3) pa_nil)) (pk_cons (pv 4) pk_nil)))) pss_nil)
      (pss_cons (ps_if (PW.pt (pw_and (pt_cmpR op_eq (pv 7) pe_int (nomark _)) (pw_and1 (pt_cmpR op_eq (pv 3) pe_str (nomark _))))) (pss_one (ps_ret (pe_nK m_Kind_0_name_align_width_size hr (by decide) (by rfl) (pk_cons (pv 2) (pk_cons (pv 6) (pk_cons (pv 5) (pk_cons (pv 4) pk_nil))))))) pss_nil)
      (pss_one (ps_ret (pe_nN m_Kind_2_size_width_align hr (by decide) (by rfl) (pa_cons (pv 2) (pa_cons (pv 3) pa_nil)) (pk_cons (pv 4) (pk_cons (pe_ifExp (PW.pt (pw_and (pt_cmpR op_eq (pv 7) pe_int (nomark _)) (pw_and1 (pt_cmpR op_eq (pv 5) (pe_op op_mul pe_int (pv 4)) (nomark _))))) pe_non (pv 5)) (pk_cons (pv 6) pk_nil))))))))), ?_⟩
    walk_at "go"
    rename_i d H1 d0 d1 hp1 st1
    by_cases c0 : d = 0
    · by_cases c1 : k.w = 8 * k.s
      · by_cases c2 : k.a = k.s
        · walk_at "go"
          rename_i x dx nx nd ne
          exact kmade1 nx nd ne ok (.inl ⟨rfl, c1⟩) (.inl ⟨rfl, c2⟩) fun H' s' hk => ⟨rfl, q _ _ hk (by walk_at "pot") (by walk_at "stay")⟩
        · walk_at "go"
          rename_i x dx nx nd ne
          exact kmade1 nx nd ne ok (.inr rfl) (.inr rfl) fun H' s' hk => ⟨rfl, q _ _ hk (by walk_at "pot") (by walk_at "stay")⟩
      · walk_at "go"
        rename_i x dx nx nd ne
        exact kmade1 nx nd ne ok (.inr rfl) (.inr rfl) fun H' s' hk => ⟨rfl, q _ _ hk (by walk_at "pot") (by walk_at "stay")⟩
    · by_cases c3 : d = 1
      · by_cases c4 : k.g = "whole"
        · walk_at "go"
          rename_i x dx nx nd ne
          show spKindI ad [.ref x, .str k.n, .str "whole", .int k.s, .int k.w, .int k.a] _ _ _
          rw [← c4]
          exact kmade1 nx nd ne ok (.inr rfl) (.inr rfl) fun H' s' hk => ⟨rfl, q _ _ hk (by walk_at "pot") (by walk_at "stay")⟩
        · walk_at "go"
          rename_i x dx nx nd ne
          exact kmade1 nx nd ne ok (.inr rfl) (.inr rfl) fun H' s' hk => ⟨rfl, q _ _ hk (by walk_at "pot") (by walk_at "stay")⟩
      · by_cases c5 : d = 2
        · by_cases c1 : k.w = 8 * k.s
          · walk_at "go"
            rename_i x dx nx nd ne
            exact kmade1 nx nd ne ok (.inl ⟨rfl, c1⟩) (.inr rfl) fun H' s' hk => ⟨rfl, q _ _ hk (by walk_at "pot") (by walk_at "stay")⟩
          · walk_at "go"
            rename_i x dx nx nd ne
            exact kmade1 nx nd ne ok (.inr rfl) (.inr rfl) fun H' s' hk => ⟨rfl, q _ _ hk (by walk_at "pot") (by walk_at "stay")⟩
        · walk_at "go"
          rename_i x dx nx nd ne
          exact kmade1 nx nd ne ok (.inr rfl) (.inr rfl) fun H' s' hk => ⟨rfl, q _ _ hk (by walk_at "pot") (by walk_at "stay")⟩
end
end K25
set_option Elab.async false
set_option linter.all false
set_option maxRecDepth 100000
set_option maxHeartbeats 4000000


namespace K25
open PySem L2 UL ClX
local macro_rules | `(tactic| walk_at "txt") => `(tactic| first
  | ((with_reducible show L2.SqT _ _ _ _); first | exact Txt.t_GROUPS (by assumption) _ | exact Txt.t_ALIGNMENTS (by assumption) _ | exact Txt.t_SIZES (by assumption) _)
  | ((with_reducible show L2.Cls _ _); first | exact UL.CIsi.cl (Txt.i_Kind (by assumption)) | exact UL.CIsi.cl (Txt.i_Book (by assumption)))
  | ((with_reducible show UL.CIsi _ _); first | exact Txt.i_Kind (by assumption) | exact Txt.i_Book (by assumption))
  | ((with_reducible show L2.NoAttr _ _ _); first | exact Txt.n_Kind_name (by assumption) | exact Txt.n_Kind_group (by assumption) | exact Txt.n_Kind_size (by assumption) | exact Txt.n_Kind_width (by assumption) | exact Txt.n_Kind_align (by assumption) | exact Txt.n_Kind_parts (by assumption) | exact Txt.n_Book_kinds (by assumption) | exact Txt.n_Book_names (by assumption) | exact Txt.n_Book_parts (by assumption))
  | ((with_reducible show L2.TyX _ _ _ _); first | exact UL.CIsi.ty (Txt.i_Kind (by assumption)) (by walk_at "look") | exact UL.CIsi.ty (Txt.i_Book (by assumption)) (by walk_at "look"))
  | ((with_reducible show PySem.W.kitOne _ (.type _) (.ref _) = _); first | exact ((Txt.k_Kind (by assumption)) _ (by simp)).1 | exact ((Txt.k_Book (by assumption)) _ (by simp)).1)
  | ((with_reducible show _ = PySem.Value.ref _ ∨ _); first | exact .inl rfl | exact .inr ⟨_, rfl, Txt.no_Kind (by assumption)⟩)
  | fail)
/-! names -/
def ABC : Str := "abcdefghijklmnopqrstuvwxyz"
theorem abc_len : ABC.cps.toList.length = 26 := by decide +kernel
theorem abc_nd : ABC.cps.toList.Nodup := by decide +kernel
theorem join_from : ∀ (r : List Str) (a : Array Nat), (r.foldl (fun acc p => acc ++ (("" : Str)).cps ++ p.cps) a).toList = a.toList ++ (r.map fun p => p.cps.toList).flatten
  | [], a => by simp
  | p :: r, a => by
    rw [List.foldl_cons, join_from r]
    have e : (("" : Str)).cps = #[] := by decide +kernel
    simp [e]
theorem join_cps (ys : List Str) : (Txt.join ("" : Str) ys).cps.toList = (ys.map fun p => p.cps.toList).flatten := by
  cases ys with
  | nil => decide +kernel
  | cons y r =>
    show (r.foldl (fun acc p => acc ++ (("" : Str)).cps ++ p.cps) y.cps).toList = _
    rw [join_from]
    rfl
theorem flat_ones {A : List Nat} : ∀ {ys : List Str}, (∀ y ∈ ys, ∃ c ∈ A, y = (⟨#[c]⟩ : Str)) → (ys.map fun p => p.cps.toList).flatten.length = ys.length ∧ ∀ c ∈ (ys.map fun p => p.cps.toList).flatten, c ∈ A
  | [], _ => by simp
  | y :: ys, h => by
    obtain ⟨c, hc, rfl⟩ := h y List.mem_cons_self
    obtain ⟨h1, h2⟩ := flat_ones (A := A) (ys := ys) fun z hz => h z (List.mem_cons_of_mem _ hz)
    simp only [List.map_cons, List.flatten_cons, List.length_append, h1, List.length_cons]
    refine ⟨by simp; omega, fun d hd => ?_⟩
    rcases List.mem_append.mp hd with z | z
    · have e : d = c := by simpa using z
      rw [e]
      exact hc
    · exact h2 d z
/-- a joined row of signs is a name -/
theorem nm_join {ys : List Str} (h : ∀ y ∈ ys, ∃ c ∈ ABC.cps.toList, y = (⟨#[c]⟩ : Str)) (h1 : 1 ≤ ys.length) (h2 : ys.length ≤ 8) : isNm (Txt.join ("" : Str) ys) := by
  obtain ⟨a, b⟩ := flat_ones h
  have e : (Txt.join ("" : Str) ys).length = ys.length := by
    show (Txt.join ("" : Str) ys).cps.size = _
    rw [← Array.length_toList, join_cps, a]
  exact ⟨by omega, by omega, fun c hc => by
    rw [join_cps] at hc
    exact b c hc⟩
/-- the t-th spare name -/
def spare (n : Str) (t : Nat) : Str := cutS n none (some 6) ++ (⟨#[ABC.cps.toList.getD (t % 26) 0]⟩ : Str) ++ (⟨#[ABC.cps.toList.getD (t / 26) 0]⟩ : Str)
theorem spare_cps (n : Str) (t : Nat) : (spare n t).cps.toList = n.cps.toList.take 6 ++ [ABC.cps.toList.getD (t % 26) 0, ABC.cps.toList.getD (t / 26) 0] := by
  have e : (cutS n none (some 6)).cps.toList = n.cps.toList.take 6 := by
    unfold cutS
    rw [HT.sIx_none, show (some (6 : Int)) = some ((6 : Nat) : Int) from rfl, HT.sIx_nat]
    simp only [List.drop_zero, Nat.sub_zero]
    have hl : n.length = n.cps.toList.length := (Array.length_toList (xs := n.cps)).symm
    rw [hl, ← List.take_eq_take_min]
  show ((cutS n none (some 6)).cps ++ #[_] ++ #[_]).toList = _
  simp only [Array.toList_append, e]
  simp
theorem abc_at {i : Nat} (h : i < 26) : ABC.cps.toList.getD i 0 ∈ ABC.cps.toList := by
  have h' : i < ABC.cps.toList.length := by rw [abc_len]; exact h
  rw [List.getD_eq_getElem?_getD, List.getElem?_eq_getElem h']
  exact List.getElem_mem h'
theorem abc_inj {i j : Nat} (hi : i < 26) (hj : j < 26) (e : ABC.cps.toList.getD i 0 = ABC.cps.toList.getD j 0) : i = j := by
  have hi' : i < ABC.cps.toList.length := by rw [abc_len]; exact hi
  have hj' : j < ABC.cps.toList.length := by rw [abc_len]; exact hj
  rw [List.getD_eq_getElem?_getD, List.getD_eq_getElem?_getD, List.getElem?_eq_getElem hi', List.getElem?_eq_getElem hj'] at e
  exact (List.getElem_inj abc_nd).mp e
theorem nm_spare {n : Str} (h : isNm n) {t : Nat} (ht : t < 100) : isNm (spare n t) := by
  have e := spare_cps n t
  have l : (spare n t).length = (n.cps.toList.take 6).length + 2 := by
    show (spare n t).cps.size = _
    rw [← Array.length_toList, e, List.length_append]
    rfl
  have m := List.length_take_le 6 n.cps.toList
  refine ⟨by omega, by omega, fun c hc => ?_⟩
  rw [e] at hc
  rcases List.mem_append.mp hc with z | z
  · exact h.2.2 c (List.mem_of_mem_take z)
  · simp only [List.mem_cons, List.mem_nil_iff, or_false] at z
    rcases z with rfl | rfl
    · exact abc_at (by omega)
    · exact abc_at (by omega)
theorem spare_inj {n : Str} {t u : Nat} (ht : t < 100) (hu : u < 100) (e : spare n t = spare n u) : t = u := by
  have h : (spare n t).cps.toList = (spare n u).cps.toList := by rw [e]
  rw [spare_cps, spare_cps] at h
  have h2 := List.append_cancel_left h
  simp only [List.cons.injEq, and_true] at h2
  have a := abc_inj (by omega) (by omega) h2.1
  have b := abc_inj (by omega) (by omega) h2.2
  omega
def spares (n : Str) : List Str := (List.range 100).map (spare n)
theorem spares_nd (n : Str) : (spares n).Nodup := by
  unfold spares
  rw [List.nodup_iff_pairwise_ne, List.pairwise_map]
  refine List.Pairwise.imp_of_mem ?_ (List.nodup_iff_pairwise_ne.mp List.nodup_range)
  intro a b ha hb ne e
  exact ne (spare_inj (List.mem_range.mp ha) (List.mem_range.mp hb) e)
/-- one of them is not taken -/
theorem spare_left (n : Str) (fs : List Str) (h : fs.length < 100) : (spares n).filter (fun x => !decide (x ∈ fs)) ≠ [] := by
  intro z
  have sub : spares n ⊆ fs := fun x hx => by
    by_cases c : x ∈ fs
    · exact c
    · exfalso
      have hm : x ∈ (spares n).filter (fun x => !decide (x ∈ fs)) := List.mem_filter.mpr ⟨hx, by simp [c]⟩
      rw [z] at hm
      cases hm
  have := List.Nodup.length_le_of_subset (spares_nd n) sub
  simp [spares] at this
  omega
section
variable {P : Program} {w : World} {K : PySem.W.Frag} {mg : Str → Option Value} {base : Heap} {ad : Ad}
/-- _law_named(pot, much, taken): so many names, none twice, none taken -/
def spNamed : Sp := fun vs H Q _ => ∃ (p lt : Addr) (m : Nat) (ts : List Str), vs = [.ref p, .int (m : Int), .ref lt] ∧ Pot H p ∧ lt ≠ p ∧ H lt = some (.lst (ts.map V.str)) ∧ m ≤ 20 ∧ ts.length ≤ 50 ∧
  ∀ (l : Addr) (ns : List Str) (H' : Hp), H l = none → H' l = some (.lst (ns.map V.str)) → ns.length = m → (∀ n ∈ ns, isNm n) → ns.Nodup → (∀ n ∈ ns, n ∉ ts) → Pot H' p → Stay p H H' → Q (.ref l) H'
abbrev st_l_named : Stmt := top 32
theorem sc_l_named : FnScope ["_law_pot_here", "_law_much", "_law_taken", "_law_alphabet", "_law_found", "_law_k", "_law_label", "_law_turn", "_law_spare", "_law_near"] ["_law_pot_here", "_law_much", "_law_taken"] (defScope st_l_named) := ⟨rfl, rfl, rfl, by decide +kernel, rfl, by decide +kernel, by decide +kernel⟩
theorem ok_l_named {f : Addr} {fd : FuncData} (F : Fun K "_law_named" "_law_named" st_l_named f fd) (T : Txt K mg ad) (c_l_pick : Cal P w K mg base 2 "_law_pick" (spPick1 K)) (c_l_draw : Cal P w K mg base 1 "_law_draw" spDraw) :
    FnOk P w K mg base CX0 3 f fd ["_law_pot_here", "_law_much", "_law_taken"] spNamed := by
  refine F.ok sc_l_named (fun vs H Q E h => ?_) (fun cdv A outer s H vs Q E hr h => ?_)
  · obtain (⟨p, lt, m, ts, rfl, hp, nlt, hlt, hm, hts, q⟩) := h
    rfl
  · obtain (⟨p, lt, m, ts, rfl, hp, nlt, hlt, hm, hts, q⟩) := h
    refine ⟨_, pss_cons (ps_asg (pe_tup (pa_cons pe_str (pa_cons (pe_lst pa_nil) pa_nil))) (pg_tup rfl (pgs_cons (pg_name (i := 3) sc_l_named.nd rfl (Or.inr rfl)) (pgs_cons (pg_name (i := 4) sc_l_named.nd rfl (Or.inr rfl)) pgs_nil))))
      (pss_cons (ps_for PassesOwn.never rfl (pi_range1 (by rfl) T.bi.range (pa_cons (pv 1) pa_nil)) (pg_name (i := 5) sc_l_named.nd rfl (Or.inl rfl))
        (pss_cons (ps_set (i := 6) sc_l_named.nd rfl (.inr rfl) (pe_join pe_str (pe_lc (own := [("_law_turn", 7)]) (g := gName 7) (tt := tYes) rfl sc_l_named.nd (pi_range1 (by rfl) T.bi.range (pa_cons (pe_c c_l_pick hr (by decide) (by rfl) (pa_cons (pv 0) (pa_cons (pe_lst (pa_cons pe_int (pa_cons pe_int (pa_cons pe_int (pa_cons pe_int (pa_cons pe_int pa_nil)))))) pa_nil))) pa_nil)) (blkOk_by (N := ["_law_pot_here", "_law_much", "_law_taken", "_law_alphabet", "_law_found", "_law_k", "_law_label", "_law_turn", "_law_spare", "_law_near"]) (sc := defScope st_l_named) (by decide +kernel)) (fun _ _ _ _ _ => pg_name (i := 7) sc_l_named.nd rfl (Or.inl rfl)) (fun _ _ _ _ _ => pts_nil) (fun _ _ _ _ _ => UL.pe_conv (pe_ix ix_str (pv 3) (pe_c c_l_draw hr (by decide) (by rfl) (pa_cons (pv 0) (pa_cons pe_int pa_nil))) (fun _ _ => rfl)) (by walk_at "unk")))))
          (pss_cons (ps_if (PW.pt (pw_or (pt_cmpR op_in_seq (pv 6) (pv 4) (by rfl)) (pw_or1 (pt_cmpR op_in_seq (pv 6) (pv 2) (by rfl))))) (pss_cons (ps_setLc (i := 8) (own := [("_law_turn", 7)]) (g := gName 7) (tt := tYes) rfl sc_l_named.nd rfl rfl (sw_true rfl rfl rfl (by decide +kernel)) (pi_range1 (by rfl) T.bi.range (pa_cons pe_int pa_nil)) (blkOk_by (N := ["_law_pot_here", "_law_much", "_law_taken", "_law_alphabet", "_law_found", "_law_k", "_law_label", "_law_turn", "_law_spare", "_law_near"]) (sc := defScope st_l_named) (by decide +kernel)) (fun _ _ _ _ _ => pg_name (i := 7) sc_l_named.nd rfl (Or.inl rfl)) (fun _ _ _ _ _ => pts_nil) (fun _ _ _ _ _ => UL.pe_conv (pe_op op_add_str (pe_op op_add_str (pe_slice sl_str (pv 6) po_none (po_some pe_int)) (pe_ix ix_str (pv 3) (pe_op op_mod (pv 7) pe_int) (fun _ _ => rfl))) (pe_ix ix_str (pv 3) (pe_op op_fdiv (pv 7) pe_int) (fun _ _ => rfl))) (by walk_at "unk")))
              (pss_one (ps_set (i := 6) sc_l_named.nd rfl (.inr rfl) (pe_ix ix_list (pe_lc (own := [("_law_near", 9)]) (g := gName 9) (tt := _) rfl sc_l_named.nd (pi_list (pv 8)) (blkOk_by (N := ["_law_pot_here", "_law_much", "_law_taken", "_law_alphabet", "_law_found", "_law_k", "_law_label", "_law_turn", "_law_spare", "_law_near"]) (sc := defScope st_l_named) (by decide +kernel)) (fun _ _ _ _ _ => pg_name (i := 9) sc_l_named.nd rfl (Or.inl rfl)) (fun _ _ _ _ _ => UL.pts_conv (pts_one (PW.pt (pw_and (pt_cmpR op_notIn_seq (pv 9) (pv 4) (by rfl)) (pw_and1 (pt_cmpR op_notIn_seq (pv 9) (pv 2) (by rfl)))))) (by walk_at "unk")) (fun _ _ _ _ _ => UL.pe_conv (pv 9) (by walk_at "unk"))) pe_int (fun _ _ => rfl))))) pss_nil)
          (pss_one (ps_expr (pe_bm PySem.F.plainAttrs_list PySem.F.slot_list_append PySem.F.type_list_append mt_append (pv 4) (pa_cons (pv 6) pa_nil)))))))
      (pss_one (ps_ret (pv 4)))), ?_⟩
    walk_at "go"
    rename_i D hD0 tp htp
    have nD : D ≠ p := by walk_at "ne"
    have nlD : lt ≠ D := ne_of_none hlt hD0
    have lenA : ABC.length = 26 := by decide +kernel
    refine for_it walk_range (fun i σ H' => Hold (∃ (ns : List Str) (a b c d e : Option V), σ = [some (.ref p), some (.int m), some (.ref lt), some (.str ABC), some (.ref D), a, b, c, d, e] ∧ ns.length = i ∧ (∀ n ∈ ns, isNm n) ∧ ns.Nodup ∧ (∀ n ∈ ns, n ∉ ts) ∧ H' D = some (.lst (ns.map V.str)) ∧ Stay p H H' ∧ Pot H' p))
      (Hold.mk ⟨[], _, _, _, _, _, rfl, rfl, fun n h => by simp at h, List.nodup_nil, fun n h => by simp at h, by walk_at "look", by walk_at "stay", by walk_at "pot"⟩) (fun _ _ _ _ _ => trivial) (fun i x σ H1 H' hi hh hy => ?_) (fun σ H1 hh => ?_)
    · obtain ⟨ns, a, b, c, d, e, es, h1, h2, h3, h4, h5, h6, h7⟩ := hh.out
      clear hh
      subst es
      obtain ⟨rfl, rfl⟩ := hy
      walk_at "go"
      rename_i pl hpl i1 v1 H2 e1 hp2 st2
      obtain ⟨j, hj, rfl⟩ := at_ints (ns := [1, 1, 2, 3, 8]) e1
      have j8 : 1 ≤ j ∧ j ≤ 8 := by
        simp only [List.mem_cons, List.mem_nil_iff, or_false] at hj
        omega
      have D2 : H2 D = some (.lst (ns.map V.str)) := by walk_at "look"
      have t2 : Stay p H H2 := by walk_at "stay"
      refine ⟨j, rfl, by omega, by omega, fun L hL => lc_keep walk_range hL hp2 (fun _ v _ => ∃ c ∈ ABC.cps.toList, v = .str ⟨#[c]⟩) (fun _ _ _ _ r _ => r) (by omega) (fun _ _ _ => trivial) (fun i2 x H3 H' hi2 s3 p3 hy Z hZ => ?_) (fun H3 ys ly ry s3 p3 hL3 => ?_)⟩
      · obtain ⟨rfl, rfl⟩ := hy
        walk_at "go"
        rename_i d H4 d0 d1 hp4 st4
        obtain ⟨t, rfl⟩ : ∃ t : Nat, d = (t : Int) := ⟨d.toNat, by omega⟩
        have ht : t < ABC.cps.toList.length := by rw [abc_len]; omega
        refine ⟨ABC, _, ABC.cps.toList[t], rfl, rfl, by decide +kernel, atI_nat (List.getElem?_eq_getElem ht), hZ _ _ ⟨_, List.getElem_mem ht, rfl⟩ st4 hp4⟩
      obtain ⟨zs, hzs, hz1⟩ := strs_of (R := fun y => ∃ c ∈ ABC.cps.toList, y = (⟨#[c]⟩ : Str)) fun i y h => by
        obtain ⟨c, hc, e⟩ := ry i y h
        exact ⟨_, ⟨c, hc, rfl⟩, e⟩
      subst hzs
      have D3 : H3 D = some (.lst (ns.map V.str)) := by walk_at "look"
      have nD3 : D ≠ L := by walk_at "ne"
      have t3 : Stay p H H3 := by walk_at "stay"
      have T3 : H3 lt = some (.lst (ts.map V.str)) := t3 _ _ nlt hlt
      have lz : (zs.length : Int) = j := by
        rw [List.length_map] at ly
        omega
      have nm := nm_join hz1 (by omega) (by omega)
      have sm : (zs.map (·.length)).sum + zs.length * (("" : Str)).length ≤ 16777216 := by
        have e : (("" : Str)).length = 0 := by decide +kernel
        have := sum_le (fun t : Str => t.length) 1 zs fun t ht => by
          obtain ⟨c, _, rfl⟩ := hz1 t ht
          exact Nat.le_refl _
        rw [e]
        omega
      generalize hlab : Txt.join ("" : Str) zs = lab at nm
      have l8 := nm.2.1
      walk_at "go"
      rw [hlab]
      refine ite_or (decide (lab ∈ ns ++ ts)) (fun c1 Q1 hQ => ?_) (fun c1 => ?_) ?_
      · have e1 : inV (.str lab) (ts.map V.str) = decide (lab ∈ ns ++ ts) := by
          rw [in_strs] at c1 ⊢
          have := of_decide_eq_false c1
          simp [this]
        walk_at "go"
        rw [e1]
        exact hQ
      · rw [in_strs] at c1
        have := of_decide_eq_true c1
        simp [this]
      have fin : ∀ (lab' : Str), isNm lab' → lab' ∉ ns ++ ts → (ns ++ [lab']).length = i + 1 ∧ (∀ n ∈ ns ++ [lab'], isNm n) ∧ (ns ++ [lab']).Nodup ∧ (∀ n ∈ ns ++ [lab'], n ∉ ts) := fun lab' hn hm => by
        rw [List.mem_append, not_or] at hm
        refine ⟨by simp [h1], fun n hn' => ?_, ?_, fun n hn' => ?_⟩
        · rcases List.mem_append.mp hn' with z | z
          · exact h2 n z
          · rw [List.mem_singleton.mp z]
            exact hn
        · rw [List.nodup_append]
          refine ⟨h3, by simp, fun a ha b hb e => ?_⟩
          rw [List.mem_singleton.mp hb] at e
          rw [e] at ha
          exact hm.1 ha
        · rcases List.mem_append.mp hn' with z | z
          · exact h4 n z
          · rw [List.mem_singleton.mp z]
            exact hm.2
      have lns : ns.length ≤ 20 := by
        have : i < m := hi
        omega
      by_cases c2 : lab ∈ ns ++ ts
      · rw [decide_eq_true c2]
        walk_at "go"
        rename_i S hS
        refine lc_same walk_range hS (fun t => .str (spare lab t)) (by decide) (fun _ _ => trivial) (fun t x H4 H' ht s4 hy R hR => ?_) (fun H4 s4 hS4 => ?_)
        · obtain ⟨rfl, hx⟩ := hy
          have hx' : x = .int (t : Int) := by
            rw [hx]
            show V.int (0 + (t : Int)) = _
            rw [Int.zero_add]
          subst hx'
          have l6 : (cutS lab none (some 6)).length ≤ 6 := by
            show (Array.size _) ≤ 6
            unfold cutS
            rw [HT.sIx_none, show (some (6 : Int)) = some ((6 : Nat) : Int) from rfl, HT.sIx_nat]
            simp
            omega
          have at1 : atI ABC.cps.toList ((t : Int) % 26) = some (ABC.cps.toList.getD (t % 26) 0) := by
            have : t % 26 < ABC.cps.toList.length := by rw [abc_len]; omega
            rw [show ((t : Int) % 26) = ((t % 26 : Nat) : Int) by omega]
            exact atI_nat (by rw [List.getD_eq_getElem?_getD, List.getElem?_eq_getElem this]; rfl)
          have at2 : atI ABC.cps.toList ((t : Int) / 26) = some (ABC.cps.toList.getD (t / 26) 0) := by
            have : t / 26 < ABC.cps.toList.length := by
              have : t < 100 := ht
              rw [abc_len]
              omega
            rw [show ((t : Int) / 26) = ((t / 26 : Nat) : Int) by omega]
            exact atI_nat (by rw [List.getD_eq_getElem?_getD, List.getElem?_eq_getElem this]; rfl)
          have la : ABC.length ≤ sizeLine := by decide +kernel
          have s1 : (cutS lab none (some 6)).length + (⟨#[ABC.cps.toList.getD (t % 26) 0]⟩ : Str).length ≤ sizeLine := line_ge (by show _ + 1 ≤ _; omega)
          have s2 : (cutS lab none (some 6) ++ (⟨#[ABC.cps.toList.getD (t % 26) 0]⟩ : Str)).length + (⟨#[ABC.cps.toList.getD (t / 26) 0]⟩ : Str).length ≤ sizeLine := line_ge (by
            rw [Str.length_append]
            show _ + 1 + 1 ≤ _
            omega)
          walk_at "go"
          refine ⟨ABC, _, _, rfl, rfl, la, by first | exact at1 | (rw [Int.zero_add]; exact at1), ?_⟩
          walk_at "go"
          refine ⟨ABC, _, _, rfl, rfl, la, by first | exact at2 | (rw [Int.zero_add]; exact at2), ?_⟩
          walk_at "go"
          exact hR _ (L2.Same.refl _)
        have e100 : (List.range (Int.toNat 100)).map (fun t => V.str (spare lab t)) = (spares lab).map V.str := by
          unfold spares
          rw [List.map_map]
          rfl
        rw [e100] at hS4
        have sl : ((spares lab).map V.str).length = 100 := by simp [spares]
        have D4 := s4 _ _ D3
        have T4 := s4 _ _ T3
        walk_at "go"
        refine ⟨⟨_, SqL.of hS4⟩, fun F hF => lc_filt (walk_list (xs := (spares lab).map V.str)) hF (fun u => !decide ((spares lab).getD u "" ∈ ns ++ ts)) (fun u => .str ((spares lab).getD u "")) (by omega) (fun H5 s5 => SqL.of (s5 _ _ hS4)) (fun u x H5 H' hu s5 hy R Z hR hZ => ?_) (fun H5 s5 hF5 => ?_)⟩
        · obtain ⟨rfl, hy⟩ := hy
          have hx : x = .str ((spares lab).getD u "") := by
            rw [List.getElem?_map] at hy
            obtain ⟨z, h1, h2⟩ := Option.map_eq_some_iff.mp hy
            rw [← h2, List.getD_eq_getElem?_getD, h1]
            rfl
          subst hx
          generalize (spares lab).getD u "" = z at hR hZ ⊢
          have D5 := s5 _ _ D4
          have T5 := s5 _ _ T4
          by_cases z1 : z ∈ ns
          · have i1 : inV (.str z) (ns.map V.str) = true := by
              rw [in_strs]
              exact decide_eq_true z1
            have b1 : (!decide (z ∈ ns ++ ts)) = false := by simp [z1]
            walk_at "go"
            exact hZ b1 _ (L2.Same.refl _)
          · have i1 : inV (.str z) (ns.map V.str) = false := by
              rw [in_strs]
              exact decide_eq_false z1
            by_cases z2 : z ∈ ts
            · have i2 : inV (.str z) (ts.map V.str) = true := by
                rw [in_strs]
                exact decide_eq_true z2
              have b1 : (!decide (z ∈ ns ++ ts)) = false := by simp [z2]
              walk_at "go"
              exact hZ b1 _ (L2.Same.refl _)
            · have i2 : inV (.str z) (ts.map V.str) = false := by
                rw [in_strs]
                exact decide_eq_false z2
              have b1 : (!decide (z ∈ ns ++ ts)) = true := by simp [z1, z2]
              walk_at "go"
              exact hR b1 _ (L2.Same.refl _)
        rw [range_filt (fun x => !decide (x ∈ ns ++ ts)) V.str (by simp)] at hF5
        obtain ⟨w0, ws, ew⟩ := List.exists_cons_of_ne_nil (spare_left lab (ns ++ ts) (by rw [List.length_append]; omega))
        rw [ew] at hF5
        have hw : w0 ∈ (spares lab).filter (fun x => !decide (x ∈ ns ++ ts)) := by
          rw [ew]
          exact List.mem_cons_self
        obtain ⟨hw1, hw2⟩ := List.mem_filter.mp hw
        have nmw : isNm w0 := by
          obtain ⟨t, ht, rfl⟩ := List.mem_map.mp hw1
          exact nm_spare nm (List.mem_range.mp ht)
        obtain ⟨g1, g2, g3, g4⟩ := fin w0 nmw (by simpa using hw2)
        have D6 : H5 D = some (.lst (ns.map V.str)) := by walk_at "look"
        refine ⟨F, _, 0, .str w0, rfl, rfl, SqL.of hF5, atI_nat (j := 0) rfl, ?_⟩
        walk_at "go"
        exact Hold.mk ⟨ns ++ [w0], _, _, _, _, _, rfl, g1, g2, g3, g4, by rw [List.map_append]; exact upd_same, Stay.over (by walk_at "stay") hD0, Pot.over (by walk_at "pot") nD⟩
      · rw [decide_eq_false c2]
        obtain ⟨g1, g2, g3, g4⟩ := fin lab nm c2
        walk_at "go"
        exact Hold.mk ⟨ns ++ [lab], _, _, _, _, _, rfl, g1, g2, g3, g4, by rw [List.map_append]; exact upd_same, Stay.over t3 hD0, Pot.over p3 nD⟩
    obtain ⟨ns, a, b, c, d, e, es, h1, h2, h3, h4, h5, h6, h7⟩ := hh.out
    subst es
    exact ⟨_, rfl, q D ns H1 hD0 h5 h1 h2 h3 h4 h7 h6⟩
end
end K25
set_option Elab.async false
set_option linter.all false
set_option maxRecDepth 100000
set_option maxHeartbeats 4000000


namespace K25
open PySem L2 UL ClX
local macro_rules | `(tactic| walk_at "txt") => `(tactic| first
  | ((with_reducible show L2.SqT _ _ _ _); first | exact Txt.t_GROUPS (by assumption) _ | exact Txt.t_ALIGNMENTS (by assumption) _ | exact Txt.t_SIZES (by assumption) _)
  | ((with_reducible show L2.Cls _ _); first | exact UL.CIsi.cl (Txt.i_Kind (by assumption)) | exact UL.CIsi.cl (Txt.i_Book (by assumption)))
  | ((with_reducible show UL.CIsi _ _); first | exact Txt.i_Kind (by assumption) | exact Txt.i_Book (by assumption))
  | ((with_reducible show L2.NoAttr _ _ _); first | exact Txt.n_Kind_name (by assumption) | exact Txt.n_Kind_group (by assumption) | exact Txt.n_Kind_size (by assumption) | exact Txt.n_Kind_width (by assumption) | exact Txt.n_Kind_align (by assumption) | exact Txt.n_Kind_parts (by assumption) | exact Txt.n_Book_kinds (by assumption) | exact Txt.n_Book_names (by assumption) | exact Txt.n_Book_parts (by assumption))
  | ((with_reducible show L2.TyX _ _ _ _); first | exact UL.CIsi.ty (Txt.i_Kind (by assumption)) (by walk_at "look") | exact UL.CIsi.ty (Txt.i_Book (by assumption)) (by walk_at "look"))
  | ((with_reducible show PySem.W.kitOne _ (.type _) (.ref _) = _); first | exact ((Txt.k_Kind (by assumption)) _ (by simp)).1 | exact ((Txt.k_Book (by assumption)) _ (by simp)).1)
  | ((with_reducible show _ = PySem.Value.ref _ ∨ _); first | exact .inl rfl | exact .inr ⟨_, rfl, Txt.no_Kind (by assumption)⟩)
  | fail)
theorem lamCx_K {X : Cx} {A : Around} {outer : List Env} {s : Shared} {H : Hp} {E : XK} {scope : Scope} {f c' : Addr} : (LamX.lamCx X A outer s H E scope f c').K = X.K := rfl
local macro_rules | `(tactic| walk_at "unkL") => `(tactic| first
  | rfl
  | (simp only [lamCx_K, UL.blk_K, UL.nox_K, UL.cxOf_K]; done)
  | (simp only [lamCx_K, UL.blk_K, UL.nox_K, UL.cxOf_K]; rfl)
  | fail)
/-- what is told of it -/
def outL : BOut → List PyData
  | .kind _ d => [.str "kind", d, .bool true]
  | .name n => [.str "name", .str n, .bool true]
  | .many => [.str "many", .str "kinds", .int 5, .bool true]
  | .book => [.str "book", .none, .bool true]
  | .made ks => [.str "made", .list ((ksn ks).map PyData.str)]
def shownB (ts : List Th) : Str := (PyData.list (outL (bout ts))).shown
/-- a thing that can be told -/
def Tok1 (p : Addr) (H : Hp) : Th → Prop
  | .kind k => k.ok
  | .odd v d => Mv p H v d ∧ fine d = true
def ToksT (p : Addr) (H : Hp) (ts : List Th) : Prop := ∀ t ∈ ts, Tok1 p H t
theorem Tok1.ext {p : Addr} {H H' : Hp} {t : Th} (h : Tok1 p H t) (s : LamX.ExtN H H') : Tok1 p H' t := by
  cases t with
  | kind k => exact h
  | odd v d => exact ⟨h.1.ext s, h.2⟩
theorem ToksT.ext {p : Addr} {H H' : Hp} {ts : List Th} (h : ToksT p H ts) (s : LamX.ExtN H H') : ToksT p H' ts := fun t ht => (h t ht).ext s
theorem letter_small : ∀ c ∈ (("abcdefghijklmnopqrstuvwxyz" : Str)).cps.toList, c < 16 ^ 8 := by decide +kernel
theorem nm_small {n : Str} (h : isNm n) : n.length ≤ 8 ∧ ∀ c ∈ n.cps.toList, c < 16 ^ 8 := ⟨h.2.1, fun c hc => letter_small c (h.2.2 c hc)⟩
theorem kds_mem {ts : List Th} {k : KD} (h : k ∈ kds ts) : .kind k ∈ ts := by
  unfold kds at h
  obtain ⟨t, ht, e⟩ := List.mem_filterMap.mp h
  cases t with
  | kind k' =>
    cases e
    exact ht
  | odd v d => cases e
/-- what bout says of the things -/
def BInv (p : Addr) (H : Hp) : BOut → Prop
  | .kind v d => Mv p H v d ∧ fine d = true
  | .name n => isNm n
  | .made ks => (∀ k ∈ ks, isNm k.n) ∧ ks.length ≤ 5
  | _ => True
theorem bout_inv {p : Addr} {H : Hp} {ts : List Th} (h : ToksT p H ts) : BInv p H (bout ts) := by
  have hk : ∀ k ∈ kds ts, isNm k.n := fun k hk => (show k.ok from h _ (kds_mem hk)).nm
  unfold bout
  cases h1 : (List.range ts.length).find? (oddB ts) with
  | some i =>
    dsimp only
    cases e : ts[i]? with
    | none => trivial
    | some t =>
      cases t with
      | kind k => trivial
      | odd v d => exact h _ (List.mem_of_getElem? e)
  | none =>
    dsimp only
    cases h2 : (List.range (kds ts).length).find? (dupB (ksn (kds ts))) with
    | some j =>
      have hj := List.mem_range.mp (List.mem_of_find?_eq_some h2)
      show isNm ((ksn (kds ts)).getD j "")
      rw [List.getD_eq_getElem?_getD, ksn, List.getElem?_map, List.getElem?_eq_getElem hj]
      exact hk _ (List.getElem_mem hj)
    | none =>
      dsimp only
      by_cases c5 : 5 < (kds ts).length
      · rw [if_pos c5]
        trivial
      · by_cases c0 : (kds ts).length = 0
        · rw [if_neg c5, if_pos c0]
          trivial
        · rw [if_neg c5, if_neg c0]
          exact ⟨hk, by omega⟩
theorem outL_fine {p : Addr} {H : Hp} : ∀ {o : BOut}, BInv p H o → (∀ d ∈ outL o, fine d = true) ∧ (outL o).length ≤ 10
  | .kind v d, h => ⟨fun x hx => by
      simp only [outL, List.mem_cons, List.not_mem_nil, or_false] at hx
      rcases hx with rfl | rfl | rfl
      · decide +kernel
      · exact h.2
      · decide +kernel, by simp [outL]⟩
  | .name n, h => ⟨fun x hx => by
      simp only [outL, List.mem_cons, List.not_mem_nil, or_false] at hx
      rcases hx with rfl | rfl | rfl
      · decide +kernel
      · exact fine_text (nm_small h).1 (nm_small h).2
      · decide +kernel, by simp [outL]⟩
  | .many, _ => ⟨fun x hx => by
      simp only [outL, List.mem_cons, List.not_mem_nil, or_false] at hx
      rcases hx with rfl | rfl | rfl | rfl <;> decide +kernel, by simp [outL]⟩
  | .book, _ => ⟨fun x hx => by
      simp only [outL, List.mem_cons, List.not_mem_nil, or_false] at hx
      rcases hx with rfl | rfl | rfl <;> decide +kernel, by simp [outL]⟩
  | .made ks, h => ⟨fun x hx => by
      simp only [outL, List.mem_cons, List.not_mem_nil, or_false] at hx
      rcases hx with rfl | rfl
      · decide +kernel
      · refine fine_strs (fun n hn => ?_) (by rw [ksn, List.length_map]; have := h.2; omega)
        obtain ⟨k, hk, rfl⟩ := List.mem_map.mp hn
        exact nm_small (h.1 k hk), by simp [outL]⟩
/-- the list told, in the heap -/
def outV (D : Addr) : BOut → List V
  | .kind v _ => [.str "kind", v, .bl true]
  | .name n => [.str "name", .str n, .bl true]
  | .many => [.str "many", .str "kinds", .int 5, .bl true]
  | .book => [.str "book", .non, .bl true]
  | .made _ => [.str "made", .ref D]
theorem outV_itm {K : PySem.W.Frag} {p : Addr} {H : Hp} {D : Addr} : ∀ {o : BOut}, BInv p H o → (∀ ks, o = .made ks → H D = some (.lst (nms ks))) → ItmAll K H (outV D o) (outL o)
  | .kind v d, h, _ => .cons (.flat (v := .str "kind") rfl) (.cons h.1.itm (.cons (.flat (v := .bl true) rfl) .nil))
  | .name n, h, _ => .cons (.flat (v := .str "name") rfl) (.cons (.flat (v := .str n) rfl) (.cons (.flat (v := .bl true) rfl) .nil))
  | .many, _, _ => .cons (.flat (v := .str "many") rfl) (.cons (.flat (v := .str "kinds") rfl) (.cons (.flat (v := .int 5) rfl) (.cons (.flat (v := .bl true) rfl) .nil)))
  | .book, _, _ => .cons (.flat (v := .str "book") rfl) (.cons (.flat (v := .non) rfl) (.cons (.flat (v := .bl true) rfl) .nil))
  | .made ks, _, hD => by
    have h := hD ks rfl
    rw [nms_eq] at h
    obtain ⟨h1, h2⟩ := flats_dp (K := K) (H := H) (UL.flat_strs (ks.map KD.n))
    rw [flatD_strs] at h1 h2
    exact .cons (.flat (v := .str "made") rfl) (.cons (.dp (.lst (SqL.of h) h1) (by rw [PyData.hasDict]; exact h2)) .nil)
theorem BInv.ext {p : Addr} {H H' : Hp} {o : BOut} (h : BInv p H o) (s : LamX.ExtN H H') : BInv p H' o := by
  cases o with
  | kind v d => exact ⟨h.1.ext s, h.2⟩
  | name n => exact h
  | made ks => exact h
  | many => trivial
  | book => trivial
/-- repr of what was told -/
theorem told_repr {K : PySem.W.Frag} {p pz D : Addr} {H : Hp} {o : BOut} {Q : VK} (inv : BInv p H o) (hp : H pz = some (.lst (outV D o))) (hD : ∀ ks, o = .made ks → H D = some (.lst (nms ks))) (q : Q (.str (PyData.list (outL o)).shown) H) : rReprT K [.ref pz] H Q := by
  obtain ⟨h1, h2⟩ := outL_fine inv
  exact reprT_mk hp (outV_itm inv hD) h1 (by omega) q
/-- _law_told(deed) -/
def TT25 (ad : Ad) : (XK → Hp → VK → Prop) → Hp → VK → Prop := fun tl H Q => ∃ (p : Addr) (ts : List Th), ToksT p H ts ∧ (∀ (H2 : Hp) (E' : XK) (Q' : VK), L2.Same H H2 → MakesB ad ts H2 Q' E' → tl E' H2 Q') ∧ ∀ H', L2.Same H H' → Q (.str (shownB ts)) H'
section
variable {P : Program} {w : World} {K : PySem.W.Frag} {mg : Str → Option Value} {base : Heap} {ad : Ad}
abbrev st_l_told : Stmt := top 35
theorem sc_l_told : FnScope ["_law_deed", "_law_told_here", "_law_one", "e"] ["_law_deed"] (defScope st_l_told) := ⟨rfl, rfl, rfl, by decide +kernel, rfl, by decide +kernel, by decide +kernel⟩
theorem gv_l_told {g : Addr} {cdv : Value} (c_Book_kinds : CalM P w K mg base 1 ad.c_Book "kinds" (spBKinds ad)) (c_Kind_name : CalP P w K mg base 1 ad.c_Kind "name" (spKGet ad fun k => .str k.n)) (T : Txt K mg ad) :
    ∀ (X : Cx) (q : Str), X.prog = P → X.w = w → X.K = K → X.mg = mg → X.base = base → X.A.guards = some [] → GivesS 3 X ["_law_deed", "_law_told_here", "_law_one", "e"] "_law_told" (defScope st_l_told) g cdv (defBody st_l_told) "_law_deed" q (TT25 ad) := by
  intro X qn eP eW eK eM eB hgd f c' s H Q tl act hr hc h
  subst eP eW eK eM eB
  have hr := hr.deeper (PyProof.Rows.envOfC "_law_told" (defScope st_l_told) s.heap.objs.size g cdv)
  obtain ⟨p, ts, hw, h1, q⟩ := h
  · refine ⟨_, pss_cons (ps_set (i := 1) sc_l_told.nd rfl (.inl rfl) (pe_lst (pa_cons pe_str pa_nil)))
      (pss_cons (ps_tries rfl rfl sc_l_told.nd takes0 (fun W pn xe tk po => pss_one (ps_set (i := 1) sc_l_told.nd rfl (.inl rfl) (pe_lst (pa_cons pe_str (pa_cons (pe_lc (own := [("_law_one", 2)]) (g := gName 2) (tt := tYes) rfl sc_l_told.nd (UL.pi_listK (K' := X.K) rfl (pe_m0 (act W pn xe _ _ tk) c_Book_kinds hr (by decide))) (blkOk_by (N := ["_law_deed", "_law_told_here", "_law_one", "e"]) (sc := defScope st_l_told) (by decide +kernel)) (fun _ _ _ _ _ => pg_name (i := 2) sc_l_told.nd rfl (Or.inl rfl)) (fun _ _ _ _ _ => pts_nil) (fun _ _ _ _ _ => UL.pe_conv (pe_p (pv 2) c_Kind_name hr (by decide) (by rfl)) (by walk_at "unk"))) pa_nil)))))
        (.cons (i := 3) rfl rfl ⟨rfl, by decide, .inl T.g_InvalidKind⟩ (fun a oe cls d pn hz hd => pss_one (ps_set (i := 1) sc_l_told.nd rfl (.inl rfl) (pe_lst (pa_cons pe_str (pa_cons (L2.pe_xf T.xf_InvalidKind T.xn_InvalidKind_value hz hd (pv 3)) (pa_cons (pe_and (pe_callB (call_isT hz) (by rfl) T.bi.isinstance (by decide +kernel) (pa_cons (pv 3) (pa_cons (pe_glob (v := .ref ad.c_CallError) (by rfl) T.g_CallError rfl) pa_nil))) (pe_one (pe_callB (call_isT hz) (by rfl) T.bi.isinstance (by decide +kernel) (pa_cons (pv 3) (pa_cons (pe_bltn (v := .ty "ValueError") (by rfl) T.bi.ValueError (by decide +kernel) rfl) pa_nil))))) pa_nil))))))
        (.cons (i := 3) rfl rfl ⟨rfl, by decide, .inl T.g_InvalidName⟩ (fun a oe cls d pn hz hd => pss_one (ps_set (i := 1) sc_l_told.nd rfl (.inl rfl) (pe_lst (pa_cons pe_str (pa_cons (L2.pe_xf T.xf_InvalidName T.xn_InvalidName_value hz hd (pv 3)) (pa_cons (pe_and (pe_callB (call_isT hz) (by rfl) T.bi.isinstance (by decide +kernel) (pa_cons (pv 3) (pa_cons (pe_glob (v := .ref ad.c_CallError) (by rfl) T.g_CallError rfl) pa_nil))) (pe_one (pe_callB (call_isT hz) (by rfl) T.bi.isinstance (by decide +kernel) (pa_cons (pv 3) (pa_cons (pe_bltn (v := .ty "ValueError") (by rfl) T.bi.ValueError (by decide +kernel) rfl) pa_nil))))) pa_nil))))))
        (.cons (i := 3) rfl rfl ⟨rfl, by decide, .inl T.g_InvalidBook⟩ (fun a oe cls d pn hz hd => pss_one (ps_set (i := 1) sc_l_told.nd rfl (.inl rfl) (pe_lst (pa_cons pe_str (pa_cons (L2.pe_xf T.xf_InvalidBook T.xn_InvalidBook_value hz hd (pv 3)) (pa_cons (pe_and (pe_callB (call_isT hz) (by rfl) T.bi.isinstance (by decide +kernel) (pa_cons (pv 3) (pa_cons (pe_glob (v := .ref ad.c_CallError) (by rfl) T.g_CallError rfl) pa_nil))) (pe_one (pe_callB (call_isT hz) (by rfl) T.bi.isinstance (by decide +kernel) (pa_cons (pv 3) (pa_cons (pe_bltn (v := .ty "ValueError") (by rfl) T.bi.ValueError (by decide +kernel) rfl) pa_nil))))) pa_nil))))))
        (.cons (i := 3) rfl rfl ⟨rfl, by decide, .inl T.g_TooMany⟩ (fun a oe cls d pn hz hd => pss_one (ps_set (i := 1) sc_l_told.nd rfl (.inl rfl) (pe_lst (pa_cons pe_str (pa_cons (L2.pe_xf T.xf_TooMany T.xn_TooMany_what hz hd (pv 3)) (pa_cons (L2.pe_xf T.xf_TooMany T.xn_TooMany_limit hz hd (pv 3)) (pa_cons (pe_and (pe_callB (call_isT hz) (by rfl) T.bi.isinstance (by decide +kernel) (pa_cons (pv 3) (pa_cons (pe_glob (v := .ref ad.c_LimitError) (by rfl) T.g_LimitError rfl) pa_nil))) (pe_one (pe_callB (call_isT hz) (by rfl) T.bi.isinstance (by decide +kernel) (pa_cons (pv 3) (pa_cons (pe_bltn (v := .ty "ArithmeticError") (by rfl) T.bi.ArithmeticError (by decide +kernel) rfl) pa_nil))))) pa_nil)))))))
        .nil)))))
      (pss_one (ps_ret (pe_callB (r := rReprT X.K) (call_reprT (by exact hgd) hr.units) (by rfl) T.bi.repr (by decide +kernel) (pa_cons (pv 1) pa_nil))))), ?_⟩
    walk_at "go"
    rename_i p0 hp0
    have s0 := same_new (o := .lst [V.str (Str.ofString "other")]) hp0
    have inv := bout_inv hw
    unfold shownB at q
    refine h1 _ _ _ s0 ⟨fun C fs e d H' hd hf st => ?_, fun ks e v' H' st hB => ?_⟩
    · have sH := s0.trans st
      cases hk : bout ts with
      | kind v0 d0 =>
        rw [hk] at e q inv
        cases e
        refine ⟨true, T.xm_InvalidKind_InvalidKind, fun _ a ha => ?_, fun z => by cases z⟩
        have xs1 := T.xs_InvalidKind_CallError
        have xb1 := T.xb_InvalidKind
        walk_at "go"
        refine ⟨_, _, rfl, fun u h => h, xs1.1, xs1.2, ?_⟩
        walk_at "go"
        refine ⟨_, _, rfl, fun u h => h, xb1, rfl, ?_⟩
        walk_at "go"
        rename_i pz hpz
        have sz := sH.trans (same_new (o := .lst (outV 0 (.kind v0 d0))) hpz)
        exact told_repr (D := 0) (o := .kind v0 d0) (inv.ext (LamX.ExtN.of sz)) upd_same (fun ks z => by cases z) (q _ sz)
      | name n =>
        rw [hk] at e q inv
        cases e
        refine ⟨false, T.xm_InvalidName_InvalidKind, fun z => (by cases z), fun _ => ⟨true, T.xm_InvalidName_InvalidName, fun _ a ha => ?_, fun z => by cases z⟩⟩
        have xs1 := T.xs_InvalidName_CallError
        have xb1 := T.xb_InvalidName
        walk_at "go"
        refine ⟨_, _, rfl, fun u h => h, xs1.1, xs1.2, ?_⟩
        walk_at "go"
        refine ⟨_, _, rfl, fun u h => h, xb1, rfl, ?_⟩
        walk_at "go"
        rename_i pz hpz
        have sz := sH.trans (same_new (o := .lst (outV 0 (.name n))) hpz)
        exact told_repr (D := 0) (o := .name n) (inv.ext (LamX.ExtN.of sz)) upd_same (fun ks z => by cases z) (q _ sz)
      | book =>
        rw [hk] at e q inv
        cases e
        refine ⟨false, T.xm_InvalidBook_InvalidKind, fun z => (by cases z), fun _ => ⟨false, T.xm_InvalidBook_InvalidName, fun z => (by cases z), fun _ => ⟨true, T.xm_InvalidBook_InvalidBook, fun _ a ha => ?_, fun z => by cases z⟩⟩⟩
        have xs1 := T.xs_InvalidBook_CallError
        have xb1 := T.xb_InvalidBook
        walk_at "go"
        refine ⟨_, _, rfl, fun u h => h, xs1.1, xs1.2, ?_⟩
        walk_at "go"
        refine ⟨_, _, rfl, fun u h => h, xb1, rfl, ?_⟩
        walk_at "go"
        rename_i pz hpz
        have sz := sH.trans (same_new (o := .lst (outV 0 (.book))) hpz)
        exact told_repr (D := 0) (o := .book) (inv.ext (LamX.ExtN.of sz)) upd_same (fun ks z => by cases z) (q _ sz)
      | many =>
        rw [hk] at e q inv
        cases e
        refine ⟨false, T.xm_TooMany_InvalidKind, fun z => (by cases z), fun _ => ⟨false, T.xm_TooMany_InvalidName, fun z => (by cases z), fun _ => ⟨false, T.xm_TooMany_InvalidBook, fun z => (by cases z), fun _ => ⟨true, T.xm_TooMany_TooMany, fun _ a ha => ?_, fun z => by cases z⟩⟩⟩⟩
        have xs1 := T.xs_TooMany_LimitError
        have xb1 := T.xb_TooMany
        walk_at "go"
        refine ⟨_, _, rfl, fun u h => h, xs1.1, xs1.2, ?_⟩
        walk_at "go"
        refine ⟨_, _, rfl, fun u h => h, xb1, rfl, ?_⟩
        walk_at "go"
        rename_i pz hpz
        have sz := sH.trans (same_new (o := .lst (outV 0 (.many))) hpz)
        exact told_repr (D := 0) (o := .many) (inv.ext (LamX.ExtN.of sz)) upd_same (fun ks z => by cases z) (q _ sz)
      | made ks =>
        rw [hk] at e
        cases e
    · have sH := s0.trans st
      rw [e] at q inv
      obtain ⟨ba, bd, b3, b4, b5, b6, b7, rfl, b8, _⟩ := id hB
      walk_at "go"
      rename_i l kvs hl hE
      have lk : kvs.length ≤ 16000000 := by have := inv.2; rw [hE.1]; omega
      refine ⟨⟨kvs, SqL.of upd_same⟩, fun D hD => lc_same (walk_list (xs := kvs)) hD (fun i => (nms ks).getD i .non) lk (fun H2 s2 => SqL.of (s2 _ _ upd_same)) (fun i y H2 H3 hi s2 hy R hR => ?_) (fun H2 s2 hd => ?_)⟩
      · obtain ⟨rfl, hy⟩ := hy
        obtain ⟨k, hk, hK⟩ := hE.at hy
        have hK2 := (hK.same (same_new hl)).same s2
        obtain ⟨b, db, p, rfl, h1, h2⟩ := id hK2
        have ei : (nms ks).getD i .non = .str k.n := by simp [nms, hk]
        rw [ei] at hR
        walk_at "go"
        exact hR _ (L2.Same.refl _)
      rw [show kvs.length = (nms ks).length by rw [hE.1, nms, List.length_map], range_getD] at hd
      walk_at "go"
      rename_i pz hpz
      have sz := sH.trans ((same_new hl).trans (s2.trans (same_new (o := .lst (outV D (.made ks))) hpz)))
      exact told_repr (D := D) (o := .made ks) (inv.ext (LamX.ExtN.of sz)) upd_same (fun ks' z => by cases z; exact same_new hpz _ _ hd) (q _ sz)
end
end K25
set_option Elab.async false
set_option linter.all false
set_option maxRecDepth 100000
set_option maxHeartbeats 4000000


namespace K25
open PySem L2 UL ClX
local macro_rules | `(tactic| walk_at "txt") => `(tactic| first
  | ((with_reducible show L2.SqT _ _ _ _); first | exact Txt.t_GROUPS (by assumption) _ | exact Txt.t_ALIGNMENTS (by assumption) _ | exact Txt.t_SIZES (by assumption) _)
  | ((with_reducible show L2.Cls _ _); first | exact UL.CIsi.cl (Txt.i_Kind (by assumption)) | exact UL.CIsi.cl (Txt.i_Book (by assumption)))
  | ((with_reducible show UL.CIsi _ _); first | exact Txt.i_Kind (by assumption) | exact Txt.i_Book (by assumption))
  | ((with_reducible show L2.NoAttr _ _ _); first | exact Txt.n_Kind_name (by assumption) | exact Txt.n_Kind_group (by assumption) | exact Txt.n_Kind_size (by assumption) | exact Txt.n_Kind_width (by assumption) | exact Txt.n_Kind_align (by assumption) | exact Txt.n_Kind_parts (by assumption) | exact Txt.n_Book_kinds (by assumption) | exact Txt.n_Book_names (by assumption) | exact Txt.n_Book_parts (by assumption))
  | ((with_reducible show L2.TyX _ _ _ _); first | exact UL.CIsi.ty (Txt.i_Kind (by assumption)) (by walk_at "look") | exact UL.CIsi.ty (Txt.i_Book (by assumption)) (by walk_at "look"))
  | ((with_reducible show PySem.W.kitOne _ (.type _) (.ref _) = _); first | exact ((Txt.k_Kind (by assumption)) _ (by simp)).1 | exact ((Txt.k_Book (by assumption)) _ (by simp)).1)
  | ((with_reducible show _ = PySem.Value.ref _ ∨ _); first | exact .inl rfl | exact .inr ⟨_, rfl, Txt.no_Kind (by assumption)⟩)
  | fail)
/-- a thing and its name, as the law keeps them -/
def labV : Th → V
  | .kind k => .str k.n
  | .odd _ _ => .non
def ThT (K : PySem.W.Frag) (ad : Ad) (H : Hp) (v : V) (t : Th) : Prop := ∃ (a : Addr) (u : V), v = .ref a ∧ H a = some (.tup [u, labV t]) ∧ ThAt K ad H u t
theorem ThT.ext {K : PySem.W.Frag} {ad : Ad} {H H' : Hp} {v : V} {t : Th} (h : ThT K ad H v t) (s : LamX.ExtN H H') : ThT K ad H' v t := by
  obtain ⟨a, u, e, h1, h2⟩ := h
  exact ⟨a, u, e, s _ _ h1 (by simp), h2.ext s⟩
/-- the odd values -/
def oddVs (pt pl pe px ps : Addr) : List V := [.non, .int 0, .int 5, .bl true, .str "", .str "a", .ref pt, .ref pl, .ref pe, .ref ps, .int (10 ^ (40 : Int).toNat), .ref px, .str "Kind('a', 'whole')"]
section
variable {P : Program} {w : World} {K : PySem.W.Frag} {mg : Str → Option Value} {base : Heap} {ad : Ad}
/-- _law_thing(pot, labels) -/
def spThing (K : PySem.W.Frag) (ad : Ad) : Sp := fun vs H Q _ => ∃ (p l : Addr) (ns : List Str), vs = [.ref p, .ref l] ∧ Pot H p ∧ l ≠ p ∧ H l = some (.lst (ns.map V.str)) ∧ ns.length = 9 ∧ (∀ n ∈ ns, isNm n) ∧
  ∀ (v : V) (t : Th) (H' : Hp), ThT K ad H' v t → Tok1 p H' t → (∀ a d, t = .odd (.ref a) d → a = l ∨ H a = none) → Pot H' p → Stay p H H' → Q v H'
abbrev st_l_thing : Stmt := top 37
theorem sc_l_thing : FnScope ["_law_pot_here", "_law_labels", "_law_odd", "_law_label"] ["_law_pot_here", "_law_labels"] (defScope st_l_thing) := ⟨rfl, rfl, rfl, by decide +kernel, rfl, by decide +kernel, by decide +kernel⟩
theorem ok_l_thing {f : Addr} {fd : FuncData} (F : Fun K "_law_thing" "_law_thing" st_l_thing f fd) (T : Txt K mg ad) (c_l_draw : Cal P w K mg base 1 "_law_draw" spDraw) (c_l_pick : Cal P w K mg base 2 "_law_pick" (spPick1 K)) (c_l_kind : Cal P w K mg base 5 "_law_kind" (spKindL ad)) (c_l_row : Cal P w K mg base 3 "_law_row" spRow) :
    FnOk P w K mg base CX0 6 f fd ["_law_pot_here", "_law_labels"] (spThing K ad) := by
  refine F.ok sc_l_thing (fun vs H Q E h => ?_) (fun cdv A outer s H vs Q E hr h => ?_)
  · obtain (⟨p, l, ns, rfl, hp, nl, hl, hn, hnm, q⟩) := h
    rfl
  · obtain (⟨p, l, ns, rfl, hp, nl, hl, hn, hnm, q⟩) := h
    refine ⟨_, pss_cons (ps_set (i := 2) sc_l_thing.nd rfl (.inl rfl) (pe_lst (pa_cons pe_non (pa_cons pe_int (pa_cons pe_int (pa_cons pe_bl (pa_cons pe_str (pa_cons pe_str (pa_cons (pe_tup (pa_cons pe_str pa_nil)) (pa_cons (pe_lst pa_nil) (pa_cons pe_dnewK (pa_cons (pe_lst (pa_cons pe_str pa_nil)) (pa_cons (pe_op op_pow pe_int pe_int) (pa_cons (pe_disp (pps_cons pe_str pe_int pps_nil) (by rfl) (by rfl) (fun z => by cases z) (by decide)) (pa_cons pe_str pa_nil)))))))))))))))
      (pss_cons (ps_if (pt_cmpR op_eq (pe_c c_l_draw hr (by decide) (by rfl) (pa_cons (pv 0) (pa_cons pe_int pa_nil))) pe_int (nomark _)) (pss_one (ps_ret (pe_tup (pa_cons (pe_c c_l_pick hr (by decide) (by rfl) (pa_cons (pv 0) (pa_cons (pe_op op_cat (pv 2) (pe_lst (pa_cons (pe_ix ix_list (pv 1) pe_int (fun _ _ => rfl)) (pa_cons (pv 1) pa_nil)))) pa_nil))) (pa_cons pe_non pa_nil))))) pss_nil)
      (pss_cons (ps_set (i := 3) sc_l_thing.nd rfl (.inl rfl) (pe_c c_l_pick hr (by decide) (by rfl) (pa_cons (pv 0) (pa_cons (pv 1) pa_nil))))
      (pss_one (ps_ret (pe_tup (pa_cons (pe_c c_l_kind hr (by decide) (by rfl) (pa_cons (pv 0) (pa_cons (pe_c c_l_row hr (by decide) (by rfl) (pa_cons (pv 0) (pa_cons (pv 3) pa_nil))) pa_nil))) (pa_cons (pv 3) pa_nil))))))), ?_⟩
    walk_at "go"
    rename_i pt hpt pl hpl pe hpe ps hps
    refine ⟨⟨by decide, by decide, by decide⟩, ?_⟩
    walk_at "go"
    rename_i px hpx
    refine ⟨[(.inr (Str.ofString "a"), .int 1)], rfl, by decide, ?_⟩
    rw [upd_upd, show mergeK [] [((Sum.inr (Str.ofString "a") : Key), V.int 1)] = [((Sum.inr (Str.ofString "a") : Key), V.int 1)] from rfl]
    have s1 := (((((same_new (o := .tup [V.str (Str.ofString "a")]) hpt).trans (same_new (o := .lst []) hpl)).trans (same_new (o := .dK []) hpe)).trans (same_new (o := .lst [V.str (Str.ofString "a")]) hps)).trans (same_new (o := .dK [((Sum.inr (Str.ofString "a") : Key), V.int 1)]) hpx))
    have gpt : (upd (upd (upd (upd (upd H pt (.tup [V.str (Str.ofString "a")])) pl (.lst [])) pe (.dK [])) ps (.lst [V.str (Str.ofString "a")])) px (.dK [((Sum.inr (Str.ofString "a") : Key), V.int 1)])) pt = some (.tup [V.str (Str.ofString "a")]) := by walk_at "look"
    have gpl : (upd (upd (upd (upd (upd H pt (.tup [V.str (Str.ofString "a")])) pl (.lst [])) pe (.dK [])) ps (.lst [V.str (Str.ofString "a")])) px (.dK [((Sum.inr (Str.ofString "a") : Key), V.int 1)])) pl = some (.lst []) := by walk_at "look"
    have gpe : (upd (upd (upd (upd (upd H pt (.tup [V.str (Str.ofString "a")])) pl (.lst [])) pe (.dK [])) ps (.lst [V.str (Str.ofString "a")])) px (.dK [((Sum.inr (Str.ofString "a") : Key), V.int 1)])) pe = some (.dK []) := by walk_at "look"
    have gps : (upd (upd (upd (upd (upd H pt (.tup [V.str (Str.ofString "a")])) pl (.lst [])) pe (.dK [])) ps (.lst [V.str (Str.ofString "a")])) px (.dK [((Sum.inr (Str.ofString "a") : Key), V.int 1)])) ps = some (.lst [V.str (Str.ofString "a")]) := by walk_at "look"
    have gpx : (upd (upd (upd (upd (upd H pt (.tup [V.str (Str.ofString "a")])) pl (.lst [])) pe (.dK [])) ps (.lst [V.str (Str.ofString "a")])) px (.dK [((Sum.inr (Str.ofString "a") : Key), V.int 1)])) px = some (.dK [((Sum.inr (Str.ofString "a") : Key), V.int 1)]) := by walk_at "look"
    generalize upd (upd (upd (upd (upd H pt (.tup [V.str (Str.ofString "a")])) pl (.lst [])) pe (.dK [])) ps (.lst [V.str (Str.ofString "a")])) px (.dK [((Sum.inr (Str.ofString "a") : Key), V.int 1)]) = H1 at s1 gpt gpl gpe gps gpx ⊢
    have hp1 := hp.same s1
    have hfr : ∀ a, V.ref a ∈ oddVs pt pl pe px ps → H a = none := fun a ha => by
      simp only [oddVs, List.mem_cons, List.not_mem_nil, or_false, V.ref.injEq, reduceCtorEq, false_or] at ha
      rcases ha with rfl | rfl | rfl | rfl | rfl
      · exact hpt
      · exact up_none hpl
      · exact up_none (up_none hpe)
      · exact up_none (up_none (up_none hps))
      · exact up_none (up_none (up_none (up_none hpx)))
    have npl : pl ≠ p := by walk_at "ne"
    have nps : ps ≠ p := by walk_at "ne"
    clear hpt hpl hpe hps hpx
    have hl1 := s1 _ _ hl
    walk_at "go"
    rename_i po hpo d H2 d0 d1 hp2 st2
    have npo : po ≠ p := by walk_at "ne"
    have fpt : H2 pt = some (.tup [V.str (Str.ofString "a")]) := by walk_at "look"
    have fpl : H2 pl = some (.lst []) := by walk_at "look"
    have fps : H2 ps = some (.lst [V.str (Str.ofString "a")]) := by walk_at "look"
    have fpe : H2 pe = some (.dK []) := st2 _ _ (ne_of gpe hp1.choose_spec.choose_spec.1 (by intro z; cases z)) (by walk_at "look")
    have fpx : H2 px = some (.dK [((Sum.inr (Str.ofString "a") : Key), V.int 1)]) := st2 _ _ (ne_of gpx hp1.choose_spec.choose_spec.1 (by intro z; cases z)) (by walk_at "look")
    have fpo : H2 po = some (.lst (oddVs pt pl pe px ps)) := st2 _ _ npo upd_same
    have fl : H2 l = some (.lst (ns.map V.str)) := by walk_at "look"
    have st02 : Stay p H H2 := by walk_at "stay"
    have MS : Menu p H2 (fun _ => true) true (oddVs pt pl pe px ps) := by
      unfold oddVs
      refine Menu.cons (.flat rfl) (by decide +kernel) rfl ?_
      refine Menu.cons (.flat rfl) (by decide +kernel) rfl ?_
      refine Menu.cons (.flat rfl) (by decide +kernel) rfl ?_
      refine Menu.cons (.flat rfl) (by decide +kernel) rfl ?_
      refine Menu.cons (.flat rfl) (by decide +kernel) rfl ?_
      refine Menu.cons (.flat rfl) (by decide +kernel) rfl ?_
      refine Menu.cons (.tup fpt rfl) (by decide +kernel) rfl ?_
      refine Menu.cons (.lst fpl npl rfl) (by decide +kernel) rfl ?_
      refine Menu.cons (.dct fpe (by simp [flatV])) (by decide +kernel) rfl ?_
      refine Menu.cons (.lst fps nps rfl) (by decide +kernel) rfl ?_
      refine Menu.cons (.flat rfl) (by decide +kernel) rfl ?_
      refine Menu.cons (.dct fpx (by simp [flatV])) (by decide +kernel) rfl ?_
      refine Menu.cons (.flat rfl) (by decide +kernel) rfl ?_
      exact Menu.nil
    obtain ⟨n0, nr, en⟩ : ∃ n0 nr, ns = n0 :: nr := by
      match ns, hn with
      | n0 :: nr, _ => exact ⟨n0, nr, rfl⟩
    have g0 := nm_small (hnm n0 (by rw [en]; exact List.mem_cons_self))
    have ML : Menu p H2 (fun _ => true) true [V.str n0, V.ref l] := by
      refine Menu.cons (.flat rfl) (fine_text g0.1 g0.2) rfl ?_
      refine Menu.cons (.lst fl nl (UL.flat_strs ns)) ?_ rfl Menu.nil
      rw [flatD_strs]
      exact fine_strs (fun x hx => nm_small (hnm x hx)) (by omega)
    have MM := MS.app ML
    clear MS ML st2 hpo hp1 s1 gpt gpl gpe gps gpx hl1 fpt fpl fps fpe fpx
    generalize hxs : oddVs pt pl pe px ps = xs at MM fpo hfr
    have lx : xs.length = 13 := by rw [← hxs]; rfl
    clear hxs
    have l0 : (ns.map V.str)[0]? = some (V.str n0) := by rw [en]; rfl
    by_cases c : d = 0
    · walk_at "go"
      refine ⟨l, _, 0, .str n0, rfl, rfl, SqL.of fl, atI_nat (j := 0) l0, ?_⟩
      walk_at "go"
      rename_i pa hpa pc hpc i v H3 hi hp3 st3 t ht
      have sac := (same_new (o := .lst [V.str n0, V.ref l]) hpa).trans (same_new (o := .lst (xs ++ [V.str n0, V.ref l])) hpc)
      obtain ⟨dd, m, f1, _⟩ := (MM.same sac) v (List.mem_of_getElem? hi)
      have m3 := m.stay (hp2.same sac) st3
      have stt := same_new (o := .tup [v, V.non]) ht
      exact q (.ref t) (.odd v dd) _ ⟨t, v, rfl, upd_same, rfl, (m3.same stt).vd⟩ ⟨m3.same stt, f1⟩ (fun a d' ea => by
        cases ea
        rcases List.mem_append.mp (List.mem_of_getElem? hi) with z | z
        · exact .inr (hfr a z)
        · simp only [List.mem_cons, List.not_mem_nil, or_false, V.ref.injEq, reduceCtorEq, false_or] at z
          exact .inl z) (hp3.same stt) (Stay.trans st02 (Stay.trans (UL.Same.stay sac p) (Stay.trans st3 (UL.Same.stay stt p))))
    · walk_at "go"
      rename_i i v H3 hi hp3 st3
      obtain ⟨n, hn1, rfl⟩ := at_strs' hi
      have nm := hnm n (List.mem_of_getElem? hn1)
      walk_at "go"
      rename_i t kd H4 ek okk ht hp4 st4 v H5 hk hp5 st5 t2 ht2
      subst ek
      have stt := same_new (o := .tup [v, V.str kd.n]) ht2
      exact q (.ref t2) (.kind kd) _ ⟨t2, v, rfl, upd_same, hk.same stt, okk⟩ okk (fun a d' ea => by cases ea) (hp5.same stt) (Stay.trans st02 (Stay.trans st3 (Stay.trans st4 (Stay.trans st5 (UL.Same.stay stt p)))))
end
theorem kinds_of1 : ∀ {ts : List Th}, (∀ j, j < ts.length → oddB ts j = false) → ts = (kds ts).map .kind
  | [], _ => rfl
  | t :: ts, no => by
    have h := kinds_of1 (ts := ts) fun j hj => by
      have := no (j + 1) (by rw [List.length_cons]; omega)
      unfold oddB at this ⊢
      simpa using this
    cases t with
    | kind k =>
      have ek : kds (.kind k :: ts) = k :: kds ts := rfl
      rw [ek, List.map_cons, ← h]
    | odd u d =>
      have := no 0 (by rw [List.length_cons]; omega)
      cases this
theorem labs_kinds (ks : List KD) : (ks.map Th.kind).map labV = (ksn ks).map V.str := by
  unfold ksn
  rw [List.map_map, List.map_map]
  rfl
theorem odd_at {ts : List Th} {i : Nat} (h : oddB ts i = true) : ∃ v d, ts[i]? = some (.odd v d) := by
  unfold oddB at h
  cases e : ts[i]? with
  | none =>
    rw [e] at h
    cases h
  | some t =>
    cases t with
    | kind k =>
      rw [e] at h
      cases h
    | odd v d => exact ⟨v, d, rfl⟩
/-- where the first None stands -/
theorem idx_none {ts : List Th} {i : Nat} {v : V} {d : PyData} (h : ts[i]? = some (.odd v d)) (no : ∀ j, j < i → oddB ts j = false) : (ts.map labV)[i]? = some .non ∧ eqV .non .non = true ∧ ∀ (m : Nat) (z : V), m < i → (ts.map labV)[m]? = some z → eqV z .non = false := by
  refine ⟨by rw [List.getElem?_map, h]; rfl, by decide +kernel, fun m z hm hz => ?_⟩
  rw [List.getElem?_map] at hz
  obtain ⟨t, ht, rfl⟩ := Option.map_eq_some_iff.mp hz
  have := no m hm
  unfold oddB at this
  rw [ht] at this
  cases t with
  | kind k => rfl
  | odd u e => cases this
theorem in_none {ts : List Th} {i : Nat} {v : V} {d : PyData} (h : ts[i]? = some (.odd v d)) : inV .non (ts.map labV) = true := by
  unfold inV
  rw [List.any_eq_true]
  exact ⟨.non, List.mem_map.mpr ⟨_, List.mem_of_getElem? h, rfl⟩, by decide +kernel⟩
theorem not_none (xs : List Str) : inV .non (xs.map V.str) = false := by
  unfold inV
  rw [List.any_eq_false]
  intro v hv
  obtain ⟨x, _, rfl⟩ := List.mem_map.mp hv
  simp [eqV]
theorem flat_labs (ts : List Th) : (ts.map labV).all flatV = true := by
  rw [List.all_eq_true]
  intro v hv
  obtain ⟨t, _, rfl⟩ := List.mem_map.mp hv
  cases t <;> rfl
section
variable {P : Program} {w : World} {K : PySem.W.Frag} {mg : Str → Option Value} {base : Heap} {ad : Ad}
/-- _law_due(things) -/
def spDueB (K : PySem.W.Frag) (ad : Ad) : Sp := fun vs H Q _ => ∃ (p l : Addr) (tvs : List V) (ts : List Th), vs = [.ref l] ∧ H l = some (.lst tvs) ∧ Each (ThT K ad H) tvs ts ∧ ToksT p H ts ∧ ts.length ≤ 20 ∧ ∀ H', L2.Same H H' → Q (.str (shownB ts)) H'
abbrev st_l_due : Stmt := top 38
theorem sc_l_due : FnScope ["_law_things", "_law_labels", "_law_thing_here", "_law_label", "_law_again", "_law_k"] ["_law_things"] (defScope st_l_due) := ⟨rfl, rfl, rfl, by decide +kernel, rfl, by decide +kernel, by decide +kernel⟩
theorem ok_l_due {f : Addr} {fd : FuncData} (F : Fun K "_law_due" "_law_due" st_l_due f fd) (T : Txt K mg ad)  :
    FnG P w K mg base 1 f fd ["_law_things"] (spDueB K ad) := by
  refine FnG.mk' F sc_l_due (fun vs H Q E h => ?_) (fun cdv A outer s H vs Q E hgd hr h => ?_)
  · obtain (⟨p, l, tvs, ts, rfl, hl, hE, hw, hz, q⟩) := h
    rfl
  · obtain (⟨p, l, tvs, ts, rfl, hl, hE, hw, hz, q⟩) := h
    refine ⟨_, pss_cons (ps_set (i := 1) sc_l_due.nd rfl (.inr rfl) (pe_lc (own := [("_law_thing_here", 2), ("_law_label", 3)]) (g := gTup K 2 (gCons (gName 2) (gCons (gName 3) gNil))) (tt := tYes) rfl sc_l_due.nd (pi_list (pv 0)) (blkOk_by (N := ["_law_things", "_law_labels", "_law_thing_here", "_law_label", "_law_again", "_law_k"]) (sc := defScope st_l_due) (by decide +kernel)) (fun _ _ _ _ _ => pg_tup rfl (pgs_cons (pg_name (i := 2) sc_l_due.nd rfl (Or.inl rfl)) (pgs_cons (pg_name (i := 3) sc_l_due.nd rfl (Or.inl rfl)) pgs_nil))) (fun _ _ _ _ _ => pts_nil) (fun _ _ _ _ _ => UL.pe_conv (pv 3) (by walk_at "unk"))))
      (pss_cons (ps_if (pt_cmpR op_in_seq pe_non (pv 1) (by rfl)) (pss_one (ps_ret (pe_callB (r := rReprT K) (call_reprT hgd hr.units) (by rfl) T.bi.repr (by decide +kernel) (pa_cons (pe_lst (pa_cons pe_str (pa_cons (pe_ix ix_tup (pe_ix ix_list (pv 0) (pe_bm PySem.F.plainAttrs_list PySem.F.slot_list_index PySem.F.type_list_index mt_index (pv 1) (pa_cons pe_non pa_nil)) (fun _ _ => rfl)) pe_int (fun _ _ => rfl)) (pa_cons pe_bl pa_nil)))) pa_nil)))) pss_nil)
      (pss_cons (ps_setLc (i := 4) (own := [("_law_k", 5), ("_law_label", 3)]) (g := gTup K 2 (gCons (gName 5) (gCons (gName 3) gNil))) (tt := _) rfl sc_l_due.nd rfl rfl (sw_true rfl rfl rfl (by decide +kernel)) (pi_enumT (by rfl) T.bi.enumerate (pa_cons (pv 1) pa_nil)) (blkOk_by (N := ["_law_things", "_law_labels", "_law_thing_here", "_law_label", "_law_again", "_law_k"]) (sc := defScope st_l_due) (by decide +kernel)) (fun _ _ _ _ _ => pg_tup rfl (pgs_cons (pg_name (i := 5) sc_l_due.nd rfl (Or.inl rfl)) (pgs_cons (pg_name (i := 3) sc_l_due.nd rfl (Or.inl rfl)) pgs_nil))) (fun _ _ _ _ _ => UL.pts_conv (pts_one (pt_cmpR op_in_seq (pv 3) (pe_slice sl_list (pv 1) po_none (po_some (pv 5))) (by rfl))) (by walk_at "unk")) (fun _ _ _ _ _ => UL.pe_conv (pv 3) (by walk_at "unk")))
      (pss_cons (ps_if (pt_cmpR (op_ne0 hr.units) (pv 4) (pe_lst pa_nil) (nomark _)) (pss_one (ps_ret (pe_callB (r := rReprT K) (call_reprT hgd hr.units) (by rfl) T.bi.repr (by decide +kernel) (pa_cons (pe_lst (pa_cons pe_str (pa_cons (pe_ix ix_list (pv 4) pe_int (fun _ _ => rfl)) (pa_cons pe_bl pa_nil)))) pa_nil)))) pss_nil)
      (pss_cons (ps_if (pt_cmpR op_gt (pe_callB call_len_seq (by rfl) T.bi.len (by decide +kernel) (pa_cons (pv 0) pa_nil)) pe_int (nomark _)) (pss_one (ps_ret (pe_callB (r := rReprT K) (call_reprT hgd hr.units) (by rfl) T.bi.repr (by decide +kernel) (pa_cons (pe_lst (pa_cons pe_str (pa_cons pe_str (pa_cons pe_int (pa_cons pe_bl pa_nil))))) pa_nil)))) pss_nil)
      (pss_one (ps_ret (pe_callB (r := rReprT K) (call_reprT hgd hr.units) (by rfl) T.bi.repr (by decide +kernel) (pa_cons (pe_ifExp (pt_cmpR (op_ne0 hr.units) (pv 0) (pe_lst pa_nil) (nomark _)) (pe_lst (pa_cons pe_str (pa_cons (pv 1) pa_nil))) (pe_lst (pa_cons pe_str (pa_cons pe_non (pa_cons pe_bl pa_nil))))) pa_nil)))))))), ?_⟩
    have lt := hE.1
    have inv := bout_inv hw
    refine ⟨_, rfl, l, rfl, ⟨tvs, SqL.of hl⟩, fun D hD => lc_same (walk_list (xs := tvs)) hD (fun i => (ts.map labV).getD i .non) (by omega) (fun H2 s2 => SqL.of (s2 _ _ hl)) (fun i y H2 H' hi s2 hy R hR => ?_) (fun H2 s2 hd => ?_)⟩
    · obtain ⟨rfl, hy⟩ := hy
      obtain ⟨t, ht, a, u, rfl, h1, h2⟩ := hE.at hy
      have ei : (ts.map labV).getD i .non = labV t := by simp [ht]
      rw [ei] at hR
      have h1' := s2 _ _ h1
      walk_at "go"
      exact hR _ (L2.Same.refl _)
    rw [show tvs.length = (ts.map labV).length by rw [lt, List.length_map], range_getD] at hd
    have hl2 := s2 _ _ hl
    have fl := flat_labs ts
    cases ho : (List.range ts.length).find? (oddB ts) with
    | some i =>
      obtain ⟨bi, hi, no⟩ := List.find?_range_eq_some.mp ho
      obtain ⟨v, d, hv⟩ := odd_at bi
      have no' : ∀ j, j < i → oddB ts j = false := fun j hj => by simpa using no j hj
      obtain ⟨i1, i2, i3⟩ := idx_none hv no'
      have inn := in_none hv
      have be := bout_odd hv no'
      obtain ⟨tv, htv, a, u, rfl, h1, rfl, h2⟩ := hE.atD hv
      have h1' := s2 _ _ h1
      rw [be] at inv
      unfold shownB at q
      rw [be] at q
      walk_at "go"
      refine ⟨l, tvs, _, .ref a, rfl, rfl, SqL.of hl2, atI_nat htv, ?_⟩
      walk_at "go"
      rename_i pz hpz
      have sz := s2.trans (same_new (o := .lst (outV 0 (.kind u d))) hpz)
      exact told_repr (D := 0) (o := .kind u d) (inv.ext (LamX.ExtN.of sz)) upd_same (fun ks z => by cases z) (q _ sz)
    | none =>
      have no : ∀ j, j < ts.length → oddB ts j = false := fun j hj => by
        have := List.find?_eq_none.mp ho j (List.mem_range.mpr hj)
        simpa using this
      have ets := kinds_of1 no
      have el : ts.map labV = (ksn (kds ts)).map V.str := (congrArg (List.map labV) ets).trans (labs_kinds _)
      have lk : (kds ts).length = ts.length := by
        have := congrArg List.length ets
        rw [List.length_map] at this
        exact this.symm
      clear ets
      rw [el] at hd fl
      have inn := not_none (ksn (kds ts))
      have ln : (ksn (kds ts)).length = ts.length := by rw [ksn, List.length_map, lk]
      have be : (∃ j, (List.range (kds ts).length).find? (dupB (ksn (kds ts))) = some j ∧ bout ts = .name ((ksn (kds ts)).getD j "")) ∨ ((∀ j, j < (kds ts).length → dupB (ksn (kds ts)) j = false) ∧ bout ts = if 5 < (kds ts).length then .many else if (kds ts).length = 0 then .book else .made (kds ts)) := by
        cases hj : (List.range (kds ts).length).find? (dupB (ksn (kds ts))) with
        | some j =>
          obtain ⟨b1, b2, b3⟩ := List.find?_range_eq_some.mp hj
          exact .inl ⟨j, rfl, bout_dup no (List.mem_range.mp b2) b1 fun m hm => by simpa using b3 m hm⟩
        | none =>
          have nd : ∀ j, j < (kds ts).length → dupB (ksn (kds ts)) j = false := fun m hm => by
            have := List.find?_eq_none.mp hj m (List.mem_range.mpr hm)
            simpa using this
          exact .inr ⟨nd, bout_rest no nd⟩
      unfold shownB at q
      clear el ho no
      generalize bout ts = bo at be inv q
      generalize hns : ksn (kds ts) = ns at *
      generalize (kds ts) = ks at *
      walk_at "go"
      rename_i F hF
      refine lc_filt (walk_enum (xs := ns.map V.str)) hF (dupB ns) (fun i => .str (ns.getD i "")) (by rw [List.length_map]; omega) (fun H3 s3 => SqL.of (s3 _ _ hd)) (fun i y H3 H' hi s3 hy R Z hR hZ => ?_) (fun H3 s3 hF3 => ?_)
      · obtain ⟨T1, u, v, rfl, hT1, rfl, hu, hv⟩ := hy
        cases hu
        obtain ⟨n, hn, rfl⟩ := at_strs' hv
        have gD : ns.getD i "" = n := by
          rw [List.getD_eq_getElem?_getD, hn]
          rfl
        rw [gD] at hR
        have hd3 := s3 _ _ hd
        have inc : inV (.str n) (cutV (ns.map V.str) none (some ((i : Nat) : Int))) = dupB ns i := by
          rw [cut_to, ← List.map_take, in_strs]
          unfold dupB
          rw [gD]
        have flc : (cutV (ns.map V.str) none (some ((i : Nat) : Int))).all flatV = true := by
          rw [cut_to, ← List.map_take]
          exact UL.flat_strs _
        cases hb : dupB ns i with
        | true =>
          rw [hb] at inc
          walk_at "go"
          rename_i w hw
          exact hR hb _ ((same_new hT1).trans (same_new hw))
        | false =>
          rw [hb] at inc
          walk_at "go"
          rename_i w hw
          exact hZ hb _ ((same_new hT1).trans (same_new hw))
      rw [List.length_map, ln, ← lk] at hF3
      have sF := s2.trans s3
      have hl3 := s3 _ _ hl2
      have hd3 := s3 _ _ hd
      have lt' : tvs.length = ks.length := by omega
      clear hE fl s3 hF
      rcases be with ⟨j, hj, rfl⟩ | ⟨nd, be⟩
      · obtain ⟨rest, er⟩ : ∃ rest, (List.range ks.length).filter (dupB ns) = j :: rest := by
          have e := List.head?_filter (p := dupB ns) (l := List.range ks.length)
          rw [hj] at e
          cases hh : (List.range ks.length).filter (dupB ns) with
          | nil =>
            rw [hh] at e
            cases e
          | cons a r =>
            rw [hh] at e
            cases e
            exact ⟨r, rfl⟩
        rw [er, List.map_cons] at hF3
        generalize ns.getD j "" = n at hF3 inv q
        generalize rest.map (fun i => V.str (ns.getD i "")) = rs at hF3
        clear er hj
        walk_at "go"
        rename_i p1 hp1 pz hpz
        have sz := sF.trans ((same_new (o := .lst []) hp1).trans (same_new (o := .lst (outV 0 (.name n))) hpz))
        exact told_repr (D := 0) (o := .name n) (inv.ext (LamX.ExtN.of sz)) upd_same (fun ks z => by cases z) (q _ sz)
      · have ef : (List.range ks.length).filter (dupB ns) = [] := List.filter_eq_nil_iff.mpr fun j hj => by
          rw [nd j (List.mem_range.mp hj)]
          decide
        rw [ef, List.map_nil] at hF3
        clear ef nd
        by_cases c5 : 5 < ks.length
        · rw [if_pos c5] at be
          subst be
          walk_at "go"
          rename_i p1 hp1 pz hpz
          have sz := sF.trans ((same_new (o := .lst []) hp1).trans (same_new (o := .lst (outV 0 .many)) hpz))
          exact told_repr (D := 0) (o := .many) (inv.ext (LamX.ExtN.of sz)) upd_same (fun ks z => by cases z) (q _ sz)
        by_cases c0 : ks.length = 0
        · rw [if_neg c5, if_pos c0] at be
          subst be
          have lt0 : tvs.length = 0 := by omega
          walk_at "go"
          rename_i p1 hp1 p2 hp2 pz hpz
          have sz := sF.trans ((same_new (o := .lst []) hp1).trans ((same_new (o := .lst []) hp2).trans (same_new (o := .lst (outV 0 .book)) hpz)))
          exact told_repr (D := 0) (o := .book) (inv.ext (LamX.ExtN.of sz)) upd_same (fun ks z => by cases z) (q _ sz)
        · rw [if_neg c5, if_neg c0] at be
          subst be
          have lt1 : tvs.length ≠ 0 := by omega
          walk_at "go"
          rename_i p1 hp1 p2 hp2 pz hpz
          have sz := sF.trans ((same_new (o := .lst []) hp1).trans ((same_new (o := .lst []) hp2).trans (same_new (o := .lst (outV D (.made ks))) hpz)))
          refine told_repr (D := D) (o := .made ks) (inv.ext (LamX.ExtN.of sz)) upd_same (fun ks' z => ?_) (q _ sz)
          cases z
          rw [nms_eq, show ks.map KD.n = ns from hns]
          exact ((same_new (o := .lst []) hp1).trans ((same_new (o := .lst []) hp2).trans (same_new (o := .lst (outV D (.made ks))) hpz))) _ _ hd3
end
end K25
set_option Elab.async false
set_option linter.all false
set_option maxRecDepth 100000
set_option maxHeartbeats 4000000


namespace K25
open PySem L2 UL ClX
local macro_rules | `(tactic| walk_at "txt") => `(tactic| first
  | ((with_reducible show L2.SqT _ _ _ _); first | exact Txt.t_GROUPS (by assumption) _ | exact Txt.t_ALIGNMENTS (by assumption) _ | exact Txt.t_SIZES (by assumption) _)
  | ((with_reducible show L2.Cls _ _); first | exact UL.CIsi.cl (Txt.i_Kind (by assumption)) | exact UL.CIsi.cl (Txt.i_Book (by assumption)))
  | ((with_reducible show UL.CIsi _ _); first | exact Txt.i_Kind (by assumption) | exact Txt.i_Book (by assumption))
  | ((with_reducible show L2.NoAttr _ _ _); first | exact Txt.n_Kind_name (by assumption) | exact Txt.n_Kind_group (by assumption) | exact Txt.n_Kind_size (by assumption) | exact Txt.n_Kind_width (by assumption) | exact Txt.n_Kind_align (by assumption) | exact Txt.n_Kind_parts (by assumption) | exact Txt.n_Book_kinds (by assumption) | exact Txt.n_Book_names (by assumption) | exact Txt.n_Book_parts (by assumption))
  | ((with_reducible show L2.TyX _ _ _ _); first | exact UL.CIsi.ty (Txt.i_Kind (by assumption)) (by walk_at "look") | exact UL.CIsi.ty (Txt.i_Book (by assumption)) (by walk_at "look"))
  | ((with_reducible show PySem.W.kitOne _ (.type _) (.ref _) = _); first | exact ((Txt.k_Kind (by assumption)) _ (by simp)).1 | exact ((Txt.k_Book (by assumption)) _ (by simp)).1)
  | ((with_reducible show _ = PySem.Value.ref _ ∨ _); first | exact .inl rfl | exact .inr ⟨_, rfl, Txt.no_Kind (by assumption)⟩)
  | fail)
local macro_rules | `(tactic| walk_at "unkL") => `(tactic| first
  | rfl
  | (simp only [lamCx_K, UL.blk_K, UL.nox_K, UL.cxOf_K]; done)
  | (simp only [lamCx_K, UL.blk_K, UL.nox_K, UL.cxOf_K]; rfl)
  | fail)
local macro_rules | `(tactic| walk_at "side") => `(tactic| ((with_reducible show L2.atI _ _ = _); first | exact L2.atI_nat (j := 5) rfl | exact L2.atI_nat (j := 6) rfl | fail))
@[irreducible] def tLamW (T : List (Addr × Str)) (TT : (XK → Hp → VK → Prop) → Hp → VK → Prop) (t : XK → TE) : TE := LamX.tLam T TT t
theorem lamW_eq {T : List (Addr × Str)} {TT : (XK → Hp → VK → Prop) → Hp → VK → Prop} {t : XK → TE} : LamX.tLam T TT t = tLamW T TT t := by
  unfold tLamW
  rfl
theorem told_step {ad : Ad} {T : List (Addr × Str)} {t : XK → TE} {σ : L2.St} {H : Hp} {Q : VK} (hT : LamX.Tabs T H) (p : Addr) (ts : List Th) (hw : ToksT p H ts)
    (h : ∀ (H1 : Hp) (E' : XK) (Q' : VK), LamX.ExtN H H1 → LamX.Tabs T H1 → MakesB ad ts H1 Q' E' → t E' σ H1 Q')
    (k : ∀ (H' : Hp), LamX.ExtN H H' → LamX.Tabs T H' → Q (.str (shownB ts)) H') : tLamW T (TT25 ad) t σ H Q := by
  unfold tLamW
  exact ⟨hT, fun H1 e1 T1 => ⟨p, ts, hw.ext e1, fun H2 E' Q' s m => h H2 E' Q' (e1.trans (LamX.ExtN.of s)) (T1.ext s) m, fun H' s => k H' (e1.trans (LamX.ExtN.of s)) (T1.ext s)⟩⟩
def tabs2 (P1 P2 : Addr) : List (Addr × Str) := [(P1, ("_law_at_once" : Str) ++ ".<locals>." ++ "<lambda>"), (P2, ("_law_right" : Str) ++ ".<locals>." ++ "<lambda>")]
theorem Each.ext {K : PySem.W.Frag} {ad : Ad} {H H' : Hp} {vs : List V} {ts : List Th} (h : Each (ThAt K ad H) vs ts) (s : LamX.ExtN H H') : Each (ThAt K ad H') vs ts := h.imp fun v t q => q.ext s
section
variable {P : Program} {w : World} {K : PySem.W.Frag} {mg : Str → Option Value} {base : Heap} {ad : Ad}
variable {P1 P2 : Addr}
/-- _law_at_once(things) -/
def spOnce (K : PySem.W.Frag) (ad : Ad) (P1 P2 : Addr) : Sp := fun vs H Q _ => ∃ (p l : Addr) (kvs : List V) (ts : List Th), vs = [.ref l] ∧ H l = some (.lst kvs) ∧ Each (ThAt K ad H) kvs ts ∧ ToksT p H ts ∧ ts.length ≤ 7 ∧ LamX.Tabs (tabs2 P1 P2) H ∧ ∀ H', LamX.ExtN H H' → LamX.Tabs (tabs2 P1 P2) H' → Q (.str (shownB ts)) H'
set_option maxHeartbeats 40000000
abbrev st_l_at_once : Stmt := top 36
theorem sc_l_at_once : FnScope ["_law_some", "_law_one", "_law_two", "_law_three"] ["_law_some"] (defScope st_l_at_once) := ⟨rfl, rfl, rfl, by decide +kernel, rfl, by decide +kernel, by decide +kernel⟩
theorem ok_l_at_once {f : Addr} {fd : FuncData} {cM : Addr} (F : FunC K "_law_at_once" "_law_at_once" st_l_at_once f fd cM) (TB : LamX.TabB base mg cM P1) (NE : P1 ≠ P2) (c_l_told : CalLG P w K mg base 3 "_law_told" "_law_deed" (TT25 ad)) (m_Book : MakRE P w K mg base 4 "Book" ad.c_Book (spBookRX K ad)) (T : Txt K mg ad) :
    FnG P w K mg base 8 f fd ["_law_some"] ((spOnce K ad P1 P2)) := by
  refine FnG.mkC F sc_l_at_once (fun vs H Q E h => ?_) (fun A outer s H vs Q E hgd hr h => ?_)
  · obtain (⟨p, l, kvs, ts, rfl, hl, hE, hw, hz, hT, q⟩) := h
    rfl
  · obtain (⟨p, l, kvs, ts, rfl, hl, hE, hw, hz, hT, q⟩) := h
    refine ⟨_, pss_cons (ps_if (pt_cmpR (op_eq0 hr.units) (pv 0) (pe_lst pa_nil) (nomark _)) (pss_one (ps_ret (UL.pe_conv (pe_lamG (T := (tabs2 P1 P2)) (by exact hgd) c_l_told (by rfl) TB rfl (List.mem_cons.mpr (.inl rfl)) (UL.two_1 NE) hr (by decide) (by decide) (show LamX.LamS (defScope st_l_at_once) _ from LamX.lamS_by (by decide +kernel)) rfl (fun _ _ _ _ _ => rfl) (fun A outer s H E f c' hrL => UL.pe_conv (pe_nR0E m_Book (px_def rfl rfl rfl rfl) hrL (by decide) (by rfl)) (by walk_at "unkL"))) lamW_eq))) pss_nil)
      (pss_cons (ps_if (pt_cmpR op_eq (pe_callB call_len_seq (by rfl) T.bi.len (by decide +kernel) (pa_cons (pv 0) pa_nil)) pe_int (nomark _)) (pss_one (ps_ret (UL.pe_conv (pe_lamG (T := (tabs2 P1 P2)) (by exact hgd) c_l_told (by rfl) TB rfl (List.mem_cons.mpr (.inl rfl)) (UL.two_1 NE) hr (by decide) (by decide) (show LamX.LamS (defScope st_l_at_once) _ from LamX.lamS_by (by decide +kernel)) rfl (fun _ _ _ _ _ => rfl) (fun A outer s H E f c' hrL => UL.pe_conv (pe_nRE m_Book (px_def rfl rfl rfl rfl) hrL (by decide) (by rfl) (pa_cons (pe_ix ix_list (pv 0) pe_int (fun _ _ => rfl)) pa_nil)) (by walk_at "unkL"))) lamW_eq))) pss_nil)
      (pss_cons (ps_if (pt_cmpR op_eq (pe_callB call_len_seq (by rfl) T.bi.len (by decide +kernel) (pa_cons (pv 0) pa_nil)) pe_int (nomark _)) (pss_one (ps_ret (UL.pe_conv (pe_lamG (T := (tabs2 P1 P2)) (by exact hgd) c_l_told (by rfl) TB rfl (List.mem_cons.mpr (.inl rfl)) (UL.two_1 NE) hr (by decide) (by decide) (show LamX.LamS (defScope st_l_at_once) _ from LamX.lamS_by (by decide +kernel)) rfl (fun _ _ _ _ _ => rfl) (fun A outer s H E f c' hrL => UL.pe_conv (pe_nRE m_Book (px_def rfl rfl rfl rfl) hrL (by decide) (by rfl) (pa_cons (pe_ix ix_list (pv 0) pe_int (fun _ _ => rfl)) (pa_cons (pe_ix ix_list (pv 0) pe_int (fun _ _ => rfl)) pa_nil))) (by walk_at "unkL"))) lamW_eq))) pss_nil)
      (pss_cons (ps_asg (pe_slice sl_list (pv 0) po_none (po_some pe_int)) (pg_lst rfl (pgs_cons (pg_name (i := 1) sc_l_at_once.nd rfl (Or.inr rfl)) (pgs_cons (pg_name (i := 2) sc_l_at_once.nd rfl (Or.inr rfl)) (pgs_cons (pg_name (i := 3) sc_l_at_once.nd rfl (Or.inr rfl)) pgs_nil)))))
      (pss_cons (ps_if (pt_cmpR op_eq (pe_callB call_len_seq (by rfl) T.bi.len (by decide +kernel) (pa_cons (pv 0) pa_nil)) pe_int (nomark _)) (pss_one (ps_ret (UL.pe_conv (pe_lamG (T := (tabs2 P1 P2)) (by exact hgd) c_l_told (by rfl) TB rfl (List.mem_cons.mpr (.inl rfl)) (UL.two_1 NE) hr (by decide) (by decide) (show LamX.LamS (defScope st_l_at_once) _ from LamX.lamS_by (by decide +kernel)) rfl (fun _ _ _ _ _ => rfl) (fun A outer s H E f c' hrL => UL.pe_conv (pe_nRE m_Book (px_def rfl rfl rfl rfl) hrL (by decide) (by rfl) (pa_cons (pv 1) (pa_cons (pv 2) (pa_cons (pv 3) pa_nil)))) (by walk_at "unkL"))) lamW_eq))) pss_nil)
      (pss_cons (ps_if (pt_cmpR op_eq (pe_callB call_len_seq (by rfl) T.bi.len (by decide +kernel) (pa_cons (pv 0) pa_nil)) pe_int (nomark _)) (pss_one (ps_ret (UL.pe_conv (pe_lamG (T := (tabs2 P1 P2)) (by exact hgd) c_l_told (by rfl) TB rfl (List.mem_cons.mpr (.inl rfl)) (UL.two_1 NE) hr (by decide) (by decide) (show LamX.LamS (defScope st_l_at_once) _ from LamX.lamS_by (by decide +kernel)) rfl (fun _ _ _ _ _ => rfl) (fun A outer s H E f c' hrL => UL.pe_conv (pe_nRE m_Book (px_def rfl rfl rfl rfl) hrL (by decide) (by rfl) (pa_cons (pv 1) (pa_cons (pv 2) (pa_cons (pv 3) (pa_cons (pe_ix ix_list (pv 0) pe_int (fun _ _ => rfl)) pa_nil))))) (by walk_at "unkL"))) lamW_eq))) pss_nil)
      (pss_cons (ps_if (pt_cmpR op_eq (pe_callB call_len_seq (by rfl) T.bi.len (by decide +kernel) (pa_cons (pv 0) pa_nil)) pe_int (nomark _)) (pss_one (ps_ret (UL.pe_conv (pe_lamG (T := (tabs2 P1 P2)) (by exact hgd) c_l_told (by rfl) TB rfl (List.mem_cons.mpr (.inl rfl)) (UL.two_1 NE) hr (by decide) (by decide) (show LamX.LamS (defScope st_l_at_once) _ from LamX.lamS_by (by decide +kernel)) rfl (fun _ _ _ _ _ => rfl) (fun A outer s H E f c' hrL => UL.pe_conv (pe_nRE m_Book (px_def rfl rfl rfl rfl) hrL (by decide) (by rfl) (pa_cons (pv 1) (pa_cons (pv 2) (pa_cons (pv 3) (pa_cons (pe_ix ix_list (pv 0) pe_int (fun _ _ => rfl)) (pa_cons (pe_ix ix_list (pv 0) pe_int (fun _ _ => rfl)) pa_nil)))))) (by walk_at "unkL"))) lamW_eq))) pss_nil)
      (pss_cons (ps_if (pt_cmpR op_eq (pe_callB call_len_seq (by rfl) T.bi.len (by decide +kernel) (pa_cons (pv 0) pa_nil)) pe_int (nomark _)) (pss_one (ps_ret (UL.pe_conv (pe_lamG (T := (tabs2 P1 P2)) (by exact hgd) c_l_told (by rfl) TB rfl (List.mem_cons.mpr (.inl rfl)) (UL.two_1 NE) hr (by decide) (by decide) (show LamX.LamS (defScope st_l_at_once) _ from LamX.lamS_by (by decide +kernel)) rfl (fun _ _ _ _ _ => rfl) (fun A outer s H E f c' hrL => UL.pe_conv (pe_nRE m_Book (px_def rfl rfl rfl rfl) hrL (by decide) (by rfl) (pa_cons (pv 1) (pa_cons (pv 2) (pa_cons (pv 3) (pa_cons (pe_ix ix_list (pv 0) pe_int (fun _ _ => rfl)) (pa_cons (pe_ix ix_list (pv 0) pe_int (fun _ _ => rfl)) (pa_cons (pe_ix ix_list (pv 0) pe_int (fun _ _ => rfl)) pa_nil))))))) (by walk_at "unkL"))) lamW_eq))) pss_nil)
      (pss_one (ps_ret (UL.pe_conv (pe_lamG (T := (tabs2 P1 P2)) (by exact hgd) c_l_told (by rfl) TB rfl (List.mem_cons.mpr (.inl rfl)) (UL.two_1 NE) hr (by decide) (by decide) (show LamX.LamS (defScope st_l_at_once) _ from LamX.lamS_by (by decide +kernel)) rfl (fun _ _ _ _ _ => rfl) (fun A outer s H E f c' hrL => UL.pe_conv (pe_nRE m_Book (px_def rfl rfl rfl rfl) hrL (by decide) (by rfl) (pa_cons (pv 1) (pa_cons (pv 2) (pa_cons (pv 3) (pa_cons (pe_ix ix_list (pv 0) pe_int (fun _ _ => rfl)) (pa_cons (pe_ix ix_list (pv 0) pe_int (fun _ _ => rfl)) (pa_cons (pe_ix ix_list (pv 0) pe_int (fun _ _ => rfl)) (pa_cons (pe_ix ix_list (pv 0) pe_int (fun _ _ => rfl)) pa_nil)))))))) (by walk_at "unkL"))) lamW_eq)))))))))), ?_⟩
    have lt := hE.1
    match kvs, lt with
    | [], lt =>
      walk_at "go"
      rename_i p0 hp0
      have s0 := same_new (o := .lst []) hp0
      have hl0 := s0 _ _ hl
      have hE0 := Each.ext hE (LamX.ExtN.of s0)
      refine told_step (hT.ext s0) p ts (hw.ext (LamX.ExtN.of s0)) (fun H1 E' Q' e1 T1 m => ?_) (fun H' e T' => q H' ((LamX.ExtN.of s0).trans e) T')
      have hl1 := e1 _ _ hl0 (by simp)
      walk_at "go"
      rename_i x dx nx nd ne
      exact bmadeX nx nd ne (Each.ext hE0 e1) (by omega) m
    | [k0], lt =>
      walk_at "go"
      rename_i p0 hp0
      have s0 := same_new (o := .lst []) hp0
      have hl0 := s0 _ _ hl
      have hE0 := Each.ext hE (LamX.ExtN.of s0)
      refine told_step (hT.ext s0) p ts (hw.ext (LamX.ExtN.of s0)) (fun H1 E' Q' e1 T1 m => ?_) (fun H' e T' => q H' ((LamX.ExtN.of s0).trans e) T')
      have hl1 := e1 _ _ hl0 (by simp)
      walk_at "go"
      rename_i x dx nx nd ne
      exact bmadeX nx nd ne (Each.ext hE0 e1) (by omega) m
    | [k0, k1], lt =>
      walk_at "go"
      rename_i p0 hp0
      have s0 := same_new (o := .lst []) hp0
      have hl0 := s0 _ _ hl
      have hE0 := Each.ext hE (LamX.ExtN.of s0)
      refine told_step (hT.ext s0) p ts (hw.ext (LamX.ExtN.of s0)) (fun H1 E' Q' e1 T1 m => ?_) (fun H' e T' => q H' ((LamX.ExtN.of s0).trans e) T')
      have hl1 := e1 _ _ hl0 (by simp)
      walk_at "go"
      rename_i x dx nx nd ne
      exact bmadeX nx nd ne (Each.ext hE0 e1) (by omega) m
    | [k0, k1, k2], lt =>
      walk_at "go"
      rename_i p0 hp0 p1 hp1
      have s0 := (same_new (o := .lst []) hp0).trans (same_new (o := .lst [k0, k1, k2]) hp1)
      have hl0 := s0 _ _ hl
      have hE0 := Each.ext hE (LamX.ExtN.of s0)
      refine told_step (hT.ext s0) p ts (hw.ext (LamX.ExtN.of s0)) (fun H1 E' Q' e1 T1 m => ?_) (fun H' e T' => q H' ((LamX.ExtN.of s0).trans e) T')
      have hl1 := e1 _ _ hl0 (by simp)
      walk_at "go"
      rename_i x dx nx nd ne
      exact bmadeX nx nd ne (Each.ext hE0 e1) (by omega) m
    | [k0, k1, k2, k3], lt =>
      walk_at "go"
      rename_i p0 hp0 p1 hp1
      have s0 := (same_new (o := .lst []) hp0).trans (same_new (o := .lst [k0, k1, k2]) hp1)
      have hl0 := s0 _ _ hl
      have hE0 := Each.ext hE (LamX.ExtN.of s0)
      refine told_step (hT.ext s0) p ts (hw.ext (LamX.ExtN.of s0)) (fun H1 E' Q' e1 T1 m => ?_) (fun H' e T' => q H' ((LamX.ExtN.of s0).trans e) T')
      have hl1 := e1 _ _ hl0 (by simp)
      walk_at "go"
      rename_i x dx nx nd ne
      exact bmadeX nx nd ne (Each.ext hE0 e1) (by omega) m
    | [k0, k1, k2, k3, k4], lt =>
      walk_at "go"
      rename_i p0 hp0 p1 hp1
      have s0 := (same_new (o := .lst []) hp0).trans (same_new (o := .lst [k0, k1, k2]) hp1)
      have hl0 := s0 _ _ hl
      have hE0 := Each.ext hE (LamX.ExtN.of s0)
      refine told_step (hT.ext s0) p ts (hw.ext (LamX.ExtN.of s0)) (fun H1 E' Q' e1 T1 m => ?_) (fun H' e T' => q H' ((LamX.ExtN.of s0).trans e) T')
      have hl1 := e1 _ _ hl0 (by simp)
      walk_at "go"
      rename_i x dx nx nd ne
      exact bmadeX nx nd ne (Each.ext hE0 e1) (by omega) m
    | [k0, k1, k2, k3, k4, k5], lt =>
      walk_at "go"
      rename_i p0 hp0 p1 hp1
      have s0 := (same_new (o := .lst []) hp0).trans (same_new (o := .lst [k0, k1, k2]) hp1)
      have hl0 := s0 _ _ hl
      have hE0 := Each.ext hE (LamX.ExtN.of s0)
      refine told_step (hT.ext s0) p ts (hw.ext (LamX.ExtN.of s0)) (fun H1 E' Q' e1 T1 m => ?_) (fun H' e T' => q H' ((LamX.ExtN.of s0).trans e) T')
      have hl1 := e1 _ _ hl0 (by simp)
      walk_at "go"
      rename_i x dx nx nd ne
      exact bmadeX nx nd ne (Each.ext hE0 e1) (by omega) m
    | [k0, k1, k2, k3, k4, k5, k6], lt =>
      walk_at "go"
      rename_i p0 hp0 p1 hp1
      have s0 := (same_new (o := .lst []) hp0).trans (same_new (o := .lst [k0, k1, k2]) hp1)
      have hl0 := s0 _ _ hl
      have hE0 := Each.ext hE (LamX.ExtN.of s0)
      refine told_step (hT.ext s0) p ts (hw.ext (LamX.ExtN.of s0)) (fun H1 E' Q' e1 T1 m => ?_) (fun H' e T' => q H' ((LamX.ExtN.of s0).trans e) T')
      have hl1 := e1 _ _ hl0 (by simp)
      walk_at "go"
      rename_i x dx nx nd ne
      exact bmadeX nx nd ne (Each.ext hE0 e1) (by omega) m
    | _ :: _ :: _ :: _ :: _ :: _ :: _ :: _ :: _, lt => exact absurd lt (by simp; omega)
end
end K25
set_option Elab.async false
set_option linter.all false
set_option maxRecDepth 100000
set_option maxHeartbeats 4000000


namespace K25
open PySem L2 UL ClX
local macro_rules | `(tactic| walk_at "txt") => `(tactic| first
  | ((with_reducible show L2.SqT _ _ _ _); first | exact Txt.t_GROUPS (by assumption) _ | exact Txt.t_ALIGNMENTS (by assumption) _ | exact Txt.t_SIZES (by assumption) _)
  | ((with_reducible show L2.Cls _ _); first | exact UL.CIsi.cl (Txt.i_Kind (by assumption)) | exact UL.CIsi.cl (Txt.i_Book (by assumption)))
  | ((with_reducible show UL.CIsi _ _); first | exact Txt.i_Kind (by assumption) | exact Txt.i_Book (by assumption))
  | ((with_reducible show L2.NoAttr _ _ _); first | exact Txt.n_Kind_name (by assumption) | exact Txt.n_Kind_group (by assumption) | exact Txt.n_Kind_size (by assumption) | exact Txt.n_Kind_width (by assumption) | exact Txt.n_Kind_align (by assumption) | exact Txt.n_Kind_parts (by assumption) | exact Txt.n_Book_kinds (by assumption) | exact Txt.n_Book_names (by assumption) | exact Txt.n_Book_parts (by assumption))
  | ((with_reducible show L2.TyX _ _ _ _); first | exact UL.CIsi.ty (Txt.i_Kind (by assumption)) (by walk_at "look") | exact UL.CIsi.ty (Txt.i_Book (by assumption)) (by walk_at "look"))
  | ((with_reducible show PySem.W.kitOne _ (.type _) (.ref _) = _); first | exact ((Txt.k_Kind (by assumption)) _ (by simp)).1 | exact ((Txt.k_Book (by assumption)) _ (by simp)).1)
  | ((with_reducible show _ = PySem.Value.ref _ ∨ _); first | exact .inl rfl | exact .inr ⟨_, rfl, Txt.no_Kind (by assumption)⟩)
  | fail)
local macro_rules | `(tactic| walk_at "unkL") => `(tactic| first
  | rfl
  | (simp only [lamCx_K, UL.blk_K, UL.nox_K, UL.cxOf_K]; done)
  | (simp only [lamCx_K, UL.blk_K, UL.nox_K, UL.cxOf_K]; rfl)
  | fail)
/-- a thing with its name in the heap, all of it -/
def TTok (K : PySem.W.Frag) (ad : Ad) (p : Addr) (H : Hp) (v : V) (t : Th) : Prop := ∃ (a : Addr) (u : V), v = .ref a ∧ H a = some (.tup [u, labV t]) ∧ ThAt K ad H u t ∧ Tok1 p H t
theorem TTok.of {K : PySem.W.Frag} {ad : Ad} {p : Addr} {H : Hp} {v : V} {t : Th} (h : ThT K ad H v t) (k : Tok1 p H t) : TTok K ad p H v t := by
  obtain ⟨a, u, e, h1, h2⟩ := h
  exact ⟨a, u, e, h1, h2, k⟩
theorem TTok.tt {K : PySem.W.Frag} {ad : Ad} {p : Addr} {H : Hp} {v : V} {t : Th} (h : TTok K ad p H v t) : ThT K ad H v t := by
  obtain ⟨a, u, e, h1, h2, _⟩ := h
  exact ⟨a, u, e, h1, h2⟩
theorem TTok.tok {K : PySem.W.Frag} {ad : Ad} {p : Addr} {H : Hp} {v : V} {t : Th} (h : TTok K ad p H v t) : Tok1 p H t := by
  obtain ⟨a, u, e, h1, h2, k⟩ := h
  exact k
theorem TTok.ext {K : PySem.W.Frag} {ad : Ad} {p : Addr} {H H' : Hp} {v : V} {t : Th} (h : TTok K ad p H v t) (s : LamX.ExtN H H') : TTok K ad p H' v t := .of (h.tt.ext s) (h.tok.ext s)
/-- all but lists stay, and what the odd one is -/
theorem TTok.keep {K : PySem.W.Frag} {ad : Ad} {p : Addr} {H H' : Hp} {v : V} {t : Th} (h : TTok K ad p H v t) (k : Keep H H') (l : ∀ a d xs, t = .odd (.ref a) d → a ≠ p → H a = some (.lst xs) → H' a = some (.lst xs)) : TTok K ad p H' v t := by
  obtain ⟨a, u, e, h1, h2, h3⟩ := h
  refine ⟨a, u, e, k.tup h1, ?_⟩
  cases t with
  | kind kd => exact ⟨⟨h2.1.keep k, h2.2⟩, h3⟩
  | odd w d =>
    obtain ⟨m, ff⟩ := h3
    have m' : Mv p H' w d := by
      cases m with
      | flat h => exact .flat h
      | lst h n f => exact .lst (l _ _ _ rfl n h) n f
      | tup h f => exact .tup (k.tup h) f
      | dct h q => exact .dct (k _ _ h (fun _ z => by cases z)) q
    exact ⟨⟨h2.1, m'.vd⟩, m', ff⟩
theorem TTok.stay {K : PySem.W.Frag} {ad : Ad} {p : Addr} {H H' : Hp} {v : V} {t : Th} (h : TTok K ad p H v t) (hp : Pot H p) (s : Stay p H H') : TTok K ad p H' v t := h.keep (UL.Stay.keep s hp) fun a d xs _ n e => s _ _ n e
/-- past a row at D -/
theorem TTok.off {K : PySem.W.Frag} {ad : Ad} {p D : Addr} {H H' : Hp} {v : V} {t : Th} (h : TTok K ad p H v t) (off : ∀ d, t ≠ .odd (.ref D) d) (hD : ∃ xs, H D = some (.lst xs)) (hp : Pot H p) (k : ∀ b o, b ≠ p → b ≠ D → H b = some o → H' b = some o) : TTok K ad p H' v t := by
  obtain ⟨ds, hD⟩ := hD
  obtain ⟨x, y, e, _⟩ := hp
  exact h.keep (fun b o hb n => k b o (fun z => n _ (Option.some.inj (hb.symm.trans ((congrArg H z).trans e)))) (fun z => n _ (Option.some.inj (hb.symm.trans ((congrArg H z).trans hD)))) hb) fun a d xs et n ha => k _ _ n (fun z => off d (by rw [et, z])) ha
theorem mem_toks {K : PySem.W.Frag} {ad : Ad} {p : Addr} {H : Hp} {vs : List V} {ts : List Th} (h : Each (TTok K ad p H) vs ts) : ToksT p H ts := fun t ht => by
  obtain ⟨i, hi⟩ := List.getElem?_of_mem ht
  obtain ⟨v, hv, k⟩ := h.atD hi
  exact k.tok
theorem makes_ok {ad : Ad} {ts : List Th} {ks : List KD} {H : Hp} {Q : VK} {E : XK} (h : bout ts = .made ks) (q : ∀ v' H', L2.Same H H' → BookAt ad H' v' ks → Q v' H') : MakesB ad ts H Q E :=
  ⟨fun C fs e => (by rw [h] at e; cases e), fun ks' e v' H' s hb => by
    rw [h] at e
    cases e
    exact q v' H' s hb⟩
theorem bok.take {ks : List KD} (h : bok ks) {n : Nat} (hn : 1 ≤ n) : bok (ks.take n) :=
  ⟨fun k hk => h.ok k (List.mem_of_mem_take hk), by rw [List.map_take]; exact List.Nodup.sublist (List.take_sublist _ _) h.nd, by have := h.lo; rw [List.length_take]; omega, by have := h.hi; rw [List.length_take]; omega⟩
theorem take_snoc {α : Type} {l : List α} {i : Nat} {x : α} (h : l[i]? = some x) : l.take i ++ [x] = l.take (i + 1) := by
  obtain ⟨h1, h2⟩ := List.getElem?_eq_some_iff.mp h
  rw [List.take_succ_eq_append_getElem h1, h2]
theorem str_nm {n : Str} (h : isNm n) : PyData.strOk n = true := by
  have a : ∀ c ∈ (("abcdefghijklmnopqrstuvwxyz" : Str)).cps.toList, decide (c < 0x110000) = true := by decide +kernel
  unfold PyData.strOk
  rw [← Array.all_toList, List.all_eq_true]
  exact fun c hc => a c (h.2.2 c hc)
theorem dp_strs {K : PySem.W.Frag} {H : Hp} : ∀ ls : List Str, DpAll K H (ls.map V.str) (ls.map PyData.str)
  | [] => .nil
  | l :: ls => .cons (.str l) (dp_strs ls)
def rowD (ls : List Str) : PyData := .list (ls.map PyData.str)
theorem dp_row {K : PySem.W.Frag} {H : Hp} {p : Addr} {ls : List Str} (h : H p = some (.lst (ls.map V.str))) : Dp K H (.ref p) (rowD ls) := .lst (SqL.of h) (dp_strs ls)
theorem lay_row {ls : List Str} (hl : ∀ l ∈ ls, isNm l) : (rowD ls).canLay0 = true := by
  have z : PyData.canLayAll0 (ls.map PyData.str) = true := lay_all fun d hd => by
    obtain ⟨l, hm, rfl⟩ := List.mem_map.mp hd
    simp [PyData.canLay0, str_nm (hl l hm)]
  simp [rowD, PyData.canLay0, z]
theorem depth_row (ls : List Str) : (rowD ls).depth ≤ 1 := by
  have h1 : PyData.depthAll (ls.map PyData.str) ≤ 0 := depth_all fun d hd => by
    obtain ⟨n, _, rfl⟩ := List.mem_map.mp hd
    simp [PyData.depth]
  simp only [rowD, PyData.depth]
  omega
theorem shaped_row {ls : List Str} (hl : ∀ l ∈ ls, isNm l) : SeqAt.shaped (rowD ls) = true := shaped_of (lay_row hl) (Nat.le_trans (depth_row ls) (by decide))
theorem eqv_row {ls : List Str} (hl : ∀ l ∈ ls, isNm l) : PyData.eqv (rowD ls) (rowD ls) = true := SeqAt.eqv_refl _ (lay_row hl)
theorem with_rest {C : Prop} {F : Addr → Hp → Prop} {GOAL : Addr → Hp → Prop} (h : ∀ G H, F G H → GOAL G H) (k : (∀ G H, F G H → GOAL G H) → C) : C := k h
theorem tabs_keep {T : List (Addr × Str)} {H H' : Hp} (h : LamX.Tabs T H) (s : Keep H H') : LamX.Tabs T H' := fun p hp => by
  obtain ⟨ps, h1, h2, h3⟩ := h p hp
  refine ⟨ps, s _ _ h1 (by simp), h2, fun pos cv hc => ?_⟩
  obtain ⟨c, e1, e2⟩ := h3 pos cv hc
  exact ⟨c, e1, s _ _ e2 (fun xs z => by unfold LamX.CodeO at z; cases z)⟩
/-- what the law keeps, the turns through -/
structure B25 (K : PySem.W.Frag) (ad : Ad) (T : List (Addr × Str)) (p L RL EL : Addr) (ns : List Str) (ks : List KD) (v : V) (H0 H : Hp) : Prop where
  tb : LamX.Tabs T H
  pot : Pot H p
  nL : L ≠ p
  nR : RL ≠ p
  nE : EL ≠ p
  lab : H L = some (.lst (ns.map V.str))
  rl : ∃ tvs, H RL = some (.lst tvs) ∧ Each (fun v k => TTok K ad p H v (.kind k)) tvs ks
  bk : BookAt ad H v ks
  el : H EL = some (.lst ((ksn ks).map V.str))
  ex : ∀ b o, b ≠ p → H0 b = some o → (∀ ps, o ≠ .tbl ps) → H b = some o
theorem B25.ext {K : PySem.W.Frag} {ad : Ad} {T : List (Addr × Str)} {p L RL EL : Addr} {ns : List Str} {ks : List KD} {v : V} {H0 H H' : Hp} (B : B25 K ad T p L RL EL ns ks v H0 H) (e : LamX.ExtN H H') (t : LamX.Tabs T H') : B25 K ad T p L RL EL ns ks v H0 H' := by
  obtain ⟨x, y, h1, h2⟩ := B.pot
  obtain ⟨tvs, r1, r2⟩ := B.rl
  exact ⟨t, ⟨x, y, e _ _ h1 (by simp), h2⟩, B.nL, B.nR, B.nE, e _ _ B.lab (by simp), ⟨tvs, e _ _ r1 (by simp), r2.imp fun v k h => h.ext e⟩, B.bk.ext e, e _ _ B.el (by simp), fun b o n h nt => e _ _ (B.ex b o n h nt) nt⟩
theorem B25.same {K : PySem.W.Frag} {ad : Ad} {T : List (Addr × Str)} {p L RL EL : Addr} {ns : List Str} {ks : List KD} {v : V} {H0 H H' : Hp} (B : B25 K ad T p L RL EL ns ks v H0 H) (s : L2.Same H H') : B25 K ad T p L RL EL ns ks v H0 H' := B.ext (LamX.ExtN.of s) (B.tb.ext s)
theorem B25.stay {K : PySem.W.Frag} {ad : Ad} {T : List (Addr × Str)} {p L RL EL : Addr} {ns : List Str} {ks : List KD} {v : V} {H0 H H' : Hp} (B : B25 K ad T p L RL EL ns ks v H0 H) (s : Stay p H H') (hp : Pot H' p) : B25 K ad T p L RL EL ns ks v H0 H' := by
  obtain ⟨tvs, r1, r2⟩ := B.rl
  have k := UL.Stay.keep s B.pot
  exact ⟨tabs_keep B.tb k, hp, B.nL, B.nR, B.nE, s _ _ B.nL B.lab, ⟨tvs, s _ _ B.nR r1, r2.imp fun v k h => h.stay B.pot s⟩, B.bk.keep k, s _ _ B.nE B.el, fun b o n h nt => s _ _ n (B.ex b o n h nt)⟩
theorem each_kinds {K : PySem.W.Frag} {ad : Ad} {p : Addr} {H : Hp} {vs : List V} {ks : List KD} (h : Each (fun v k => TTok K ad p H v (.kind k)) vs ks) : Each (TTok K ad p H) vs (ks.map Th.kind) := ⟨by rw [List.length_map]; exact h.1, fun i v t h1 h2 => by
  rw [List.getElem?_map] at h2
  obtain ⟨k, h3, rfl⟩ := Option.map_eq_some_iff.mp h2
  exact h.2 i v k h1 h3⟩
theorem toks_app {p : Addr} {H : Hp} {ts us : List Th} (h : ToksT p H ts) (k : ToksT p H us) : ToksT p H (ts ++ us) := fun t ht => (List.mem_append.mp ht).elim (h t) (k t)
theorem toks_one {p : Addr} {H : Hp} {t : Th} (h : Tok1 p H t) : ToksT p H [t] := fun x hx => by rw [List.mem_singleton.mp hx]; exact h
theorem toks_kinds {p : Addr} {H : Hp} {ks : List KD} (h : bok ks) : ToksT p H (ks.map Th.kind) := fun t ht => by
  obtain ⟨k, hk, rfl⟩ := List.mem_map.mp ht
  exact h.ok k hk
section
variable {P : Program} {w : World} {K : PySem.W.Frag} {mg : Str → Option Value} {base : Heap} {ad : Ad}
theorem bmade1 {H1 : Hp} {x dx : Addr} {kvs : List V} {ts : List Th} {ks : List KD} {R : VK} {E : XK} (nx : H1 x = none) (nd : H1 dx = none) (ne : dx ≠ x) (hT : Each (ThAt K ad H1) kvs ts) (hz : ts.length ≤ 1000) (hb : bout ts = .made ks) (kk : ∀ H', L2.Same H1 H' → BookAt ad H' (.ref x) ks → R .non H') :
    spBookRX K ad (.ref x :: kvs) (upd (upd H1 dx (.own x)) x (.ins ad.c_Book dx [])) R E := by
  have s1 : L2.Same H1 (upd H1 dx (.own x)) := same_new nd
  have n2 : upd H1 dx (.own x) x = none := by rw [upd_ne ne.symm]; exact nx
  have s2 := s1.trans (same_new (o := .ins ad.c_Book dx []) n2)
  unfold spBookRX
  exact ⟨x, dx, kvs, ts, rfl, hT.imp fun v k q => q.same s2, hz, upd_same, fun C fs e => (by rw [hb] at e; cases e), fun ks' e H' st hbk => by
    rw [hb] at e
    cases e
    exact kk H' (fun b o eb => st b o (ne_of_none eb nx) (s2 b o eb)) hbk⟩
variable {P1 P2 : Addr}
def spRight (P1 P2 : Addr) : Sp := fun vs H Q _ => ∃ p : Addr, vs = [.ref p] ∧ Pot H p ∧ LamX.Tabs (tabs2 P1 P2) H ∧
  ∀ H' : Hp, LamX.Tabs (tabs2 P1 P2) H' → (∀ b o, b ≠ p → H b = some o → (∀ ps, o ≠ .tbl ps) → H' b = some o) → Q (.bl true) H'
set_option maxHeartbeats 40000000
abbrev st_l_right : Stmt := top 39
theorem sc_l_right : FnScope ["_law_pot_here", "_law_labels", "_law_things", "_law_turn", "_law_label", "_law_thing_here", "_law_right_here", "_law_made", "_law_elder", "_law_more"] ["_law_pot_here"] (defScope st_l_right) := ⟨rfl, rfl, rfl, by decide +kernel, rfl, by decide +kernel, by decide +kernel⟩
theorem ok_l_right {f : Addr} {fd : FuncData} {cM : Addr} (F : FunC K "_law_right" "_law_right" st_l_right f fd cM) (TB : LamX.TabB base mg cM P2) (NE : P1 ≠ P2) (c_l_named : Cal P w K mg base 3 "_law_named" spNamed) (c_l_draw : Cal P w K mg base 1 "_law_draw" spDraw) (c_l_thing : Cal P w K mg base 6 "_law_thing" (spThing K ad)) (c_l_kind : Cal P w K mg base 5 "_law_kind" (spKindL ad)) (c_l_row : Cal P w K mg base 3 "_law_row" spRow) (c_l_at_once : CalG P w K mg base 8 "_law_at_once" (spOnce K ad P1 P2)) (c_l_due : CalG P w K mg base 1 "_law_due" (spDueB K ad)) (m_Book : MakRE P w K mg base 4 "Book" ad.c_Book (spBookRX K ad)) (c_Book_add : CalSE P w K mg base 6 ad.c_Book "__add__" (spBAddX K ad)) (c_Book_names : CalM P w K mg base 1 ad.c_Book "names" (spBNames ad)) (c_l_told : CalLG P w K mg base 3 "_law_told" "_law_deed" (TT25 ad)) (T : Txt K mg ad) :
    FnG P w K mg base 9 f fd ["_law_pot_here"] ((spRight P1 P2)) := by
  refine FnG.mkC F sc_l_right (fun vs H Q E h => ?_) (fun A outer s H vs Q E hgd hr h => ?_)
  · obtain (⟨p, rfl, hp, hT, q⟩) := h
    rfl
  · obtain (⟨p, rfl, hp, hT, q⟩) := h
    refine ⟨_, pss_cons (ps_set (i := 1) sc_l_right.nd rfl (.inr rfl) (pe_c c_l_named hr (by decide) (by rfl) (pa_cons (pv 0) (pa_cons pe_int (pa_cons (pe_lst pa_nil) pa_nil)))))
      (pss_cons (ps_setLc (i := 2) (own := [("_law_turn", 3)]) (g := gName 3) (tt := tYes) rfl sc_l_right.nd rfl rfl (sw_true rfl rfl rfl (by decide +kernel)) (pi_range1 (by rfl) T.bi.range (pa_cons (pe_c c_l_draw hr (by decide) (by rfl) (pa_cons (pv 0) (pa_cons pe_int pa_nil))) pa_nil)) (blkOk_by (N := ["_law_pot_here", "_law_labels", "_law_things", "_law_turn", "_law_label", "_law_thing_here", "_law_right_here", "_law_made", "_law_elder", "_law_more"]) (sc := defScope st_l_right) (by decide +kernel)) (fun _ _ _ _ _ => pg_name (i := 3) sc_l_right.nd rfl (Or.inl rfl)) (fun _ _ _ _ _ => pts_nil) (fun _ _ _ _ _ => UL.pe_conv (pe_c c_l_thing hr (by decide) (by rfl) (pa_cons (pv 0) (pa_cons (pv 1) pa_nil))) (by walk_at "unk")))
      (pss_cons (ps_if (pt_cmpR op_gt (pe_c c_l_draw hr (by decide) (by rfl) (pa_cons (pv 0) (pa_cons pe_int pa_nil))) pe_int (nomark _)) (pss_one (ps_setLc (i := 2) (own := [("_law_label", 4)]) (g := gName 4) (tt := tYes) rfl sc_l_right.nd rfl rfl (sw_true rfl rfl rfl (by decide +kernel)) (pi_list (pe_slice sl_list (pv 1) po_none (po_some (pe_c c_l_draw hr (by decide) (by rfl) (pa_cons (pv 0) (pa_cons pe_int pa_nil)))))) (blkOk_by (N := ["_law_pot_here", "_law_labels", "_law_things", "_law_turn", "_law_label", "_law_thing_here", "_law_right_here", "_law_made", "_law_elder", "_law_more"]) (sc := defScope st_l_right) (by decide +kernel)) (fun _ _ _ _ _ => pg_name (i := 4) sc_l_right.nd rfl (Or.inl rfl)) (fun _ _ _ _ _ => pts_nil) (fun _ _ _ _ _ => UL.pe_conv (pe_tup (pa_cons (pe_c c_l_kind hr (by decide) (by rfl) (pa_cons (pv 0) (pa_cons (pe_c c_l_row hr (by decide) (by rfl) (pa_cons (pv 0) (pa_cons (pv 4) pa_nil))) pa_nil))) (pa_cons (pv 4) pa_nil))) (by walk_at "unk")))) pss_nil)
      (pss_cons (ps_if (pt_cmpR op_ne (pe_cG hgd c_l_at_once hr (by decide) (by rfl) (pa_cons (pe_lc (own := [("_law_thing_here", 5), ("_law_label", 4)]) (g := gTup K 2 (gCons (gName 5) (gCons (gName 4) gNil))) (tt := tYes) rfl sc_l_right.nd (pi_list (pv 2)) (blkOk_by (N := ["_law_pot_here", "_law_labels", "_law_things", "_law_turn", "_law_label", "_law_thing_here", "_law_right_here", "_law_made", "_law_elder", "_law_more"]) (sc := defScope st_l_right) (by decide +kernel)) (fun _ _ _ _ _ => pg_tup rfl (pgs_cons (pg_name (i := 5) sc_l_right.nd rfl (Or.inl rfl)) (pgs_cons (pg_name (i := 4) sc_l_right.nd rfl (Or.inl rfl)) pgs_nil))) (fun _ _ _ _ _ => pts_nil) (fun _ _ _ _ _ => UL.pe_conv (pv 5) (by walk_at "unk"))) pa_nil)) (pe_cG hgd c_l_due hr (by decide) (by rfl) (pa_cons (pv 2) pa_nil)) (nomark _)) (pss_one (ps_ret pe_bl)) pss_nil)
      (pss_cons (ps_setLc (i := 6) (own := [("_law_label", 4)]) (g := gName 4) (tt := tYes) rfl sc_l_right.nd rfl rfl (sw_true rfl rfl rfl (by decide +kernel)) (pi_list (pe_slice sl_list (pv 1) po_none (po_some (pe_op op_add pe_int (pe_c c_l_draw hr (by decide) (by rfl) (pa_cons (pv 0) (pa_cons pe_int pa_nil))))))) (blkOk_by (N := ["_law_pot_here", "_law_labels", "_law_things", "_law_turn", "_law_label", "_law_thing_here", "_law_right_here", "_law_made", "_law_elder", "_law_more"]) (sc := defScope st_l_right) (by decide +kernel)) (fun _ _ _ _ _ => pg_name (i := 4) sc_l_right.nd rfl (Or.inl rfl)) (fun _ _ _ _ _ => pts_nil) (fun _ _ _ _ _ => UL.pe_conv (pe_tup (pa_cons (pe_c c_l_kind hr (by decide) (by rfl) (pa_cons (pv 0) (pa_cons (pe_c c_l_row hr (by decide) (by rfl) (pa_cons (pv 0) (pa_cons (pv 4) pa_nil))) pa_nil))) (pa_cons (pv 4) pa_nil))) (by walk_at "unk")))
      (pss_cons (ps_set (i := 7) sc_l_right.nd rfl (.inr rfl) (pe_nRE m_Book px_none hr (by decide) (by rfl) (pa_cons (pe_ix ix_tup (pe_ix ix_list (pv 6) pe_int (fun _ _ => rfl)) pe_int (fun _ _ => rfl)) pa_nil)))
      (pss_cons (ps_for PassesOwn.never rfl (pi_list (pe_slice sl_list (pv 6) (po_some pe_int) po_none)) (pg_tup rfl (pgs_cons (pg_name (i := 5) sc_l_right.nd rfl (Or.inl rfl)) (pgs_cons (pg_name (i := 4) sc_l_right.nd rfl (Or.inl rfl)) pgs_nil)))
        (pss_one (ps_set (i := 7) sc_l_right.nd rfl (.inr rfl) (pe_op (op_addSAE c_Book_add px_none T.sf_Book hr (by decide)) (pv 7) (pv 5)))))
      (pss_cons (ps_set (i := 8) sc_l_right.nd rfl (.inl rfl) (pe_m0 (pv 7) c_Book_names hr (by decide)))
      (pss_cons (ps_for PassesOwn.never rfl (pi_range1 (by rfl) T.bi.range (pa_cons pe_int pa_nil)) (pg_name (i := 3) sc_l_right.nd rfl (Or.inl rfl))
        (pss_cons (ps_set (i := 9) sc_l_right.nd rfl (.inr rfl) (pe_c c_l_thing hr (by decide) (by rfl) (pa_cons (pv 0) (pa_cons (pv 1) pa_nil))))
          (pss_one (ps_if (PW.pt (pw_or (pt_cmpR op_ne (UL.pe_conv (pe_lamG (T := (tabs2 P1 P2)) (by exact hgd) c_l_told (by rfl) TB rfl (List.mem_cons.mpr (.inr (List.mem_singleton.mpr rfl))) (UL.two_2 NE) hr (by decide) (by decide) (show LamX.LamS (defScope st_l_right) _ from LamX.lamS_by (by decide +kernel)) rfl (fun _ _ _ _ _ => rfl) (fun A outer s H E f c' hrL => UL.pe_conv (pe_op (op_addSAE c_Book_add (px_def rfl rfl rfl rfl) T.sf_Book hrL (by decide)) (pv 7) (pe_ix ix_tup (pv 9) pe_int (fun _ _ => rfl))) (by walk_at "unkL"))) lamW_eq) (pe_cG hgd c_l_due hr (by decide) (by rfl) (pa_cons (pe_op op_cat (pv 6) (pe_lst (pa_cons (pv 9) pa_nil))) pa_nil)) (nomark _)) (pw_or1 (pt_cmpR (op_neD hr.units) (pe_m0 (pv 7) c_Book_names hr (by decide)) (pv 8) (nomark _))))) (pss_one (ps_ret pe_bl)) pss_nil))))
      (pss_one (ps_ret (pe_cmpR op_eq (UL.pe_conv (pe_lamG (T := (tabs2 P1 P2)) (by exact hgd) c_l_told (by rfl) TB rfl (List.mem_cons.mpr (.inr (List.mem_singleton.mpr rfl))) (UL.two_2 NE) hr (by decide) (by decide) (show LamX.LamS (defScope st_l_right) _ from LamX.lamS_by (by decide +kernel)) rfl (fun _ _ _ _ _ => rfl) (fun A outer s H E f c' hrL => UL.pe_conv (pv 7) (by walk_at "unkL"))) lamW_eq) (pe_callB (r := rReprT K) (call_reprT hgd hr.units) (by rfl) T.bi.repr (by decide +kernel) (pa_cons (pe_lst (pa_cons pe_str (pa_cons (pv 8) pa_nil))) pa_nil)) (nomark _)))))))))))), ?_⟩
    walk_at "go"
    rename_i e he
    refine ⟨p, e, 9, [], rfl, by walk_at "pot", by walk_at "ne", upd_same, by decide, by simp, fun L ns H1 hL0 hL1 n9 nmS ndS _ hp1 st1 => ?_⟩
    have nL : L ≠ p := by walk_at "ne"
    have k01 : Stay p H H1 := by walk_at "stay"
    clear hL0 st1 he
    walk_at "go"
    rename_i d H2 d0 d1 hp2 st2 D hD
    have k02 := Stay.trans k01 st2
    have hL2 := st2 _ _ nL hL1
    have nD : D ≠ p := by walk_at "ne"
    have nLD : L ≠ D := ne_of_none hL2 hD
    clear hL1 hp1 st2 k01
    refine lc_stayD walk_range hD hp2 (fun i v H => ∃ t, TTok K ad p H v t ∧ ∀ d, t ≠ .odd (.ref D) d) (fun i v H H' ⟨t, k, off⟩ hD hp s => ⟨t, k.off off hD hp s, off⟩) (by omega) (fun _ _ _ => trivial) (fun i x H3 H' hi s3 p3 hd3 hy Z hZ => ?_) (fun H3 ys ly ry s3 p3 hD3 => ?_)
    · obtain ⟨rfl, rfl⟩ := hy
      have hL3 := s3 _ _ nL hL2
      walk_at "go"
      rename_i v t H4 hth htk hof hp4 st4
      refine hZ _ _ ⟨t, .of hth htk, fun dd et => ?_⟩ st4 hp4
      rcases hof D dd et with z | z
      · exact nLD z.symm
      · obtain ⟨xs, hx⟩ := hd3
        rw [z] at hx
        cases hx
    obtain ⟨ts, lts, hts⟩ := each_choose (R := fun i v t => TTok K ad p H3 v t) fun i y h => by
      obtain ⟨t, k, _⟩ := ry i y h
      exact ⟨t, k⟩
    have hE3 : Each (TTok K ad p H3) ys ts := ⟨lts.symm, hts⟩
    have lt7 : ts.length ≤ 7 := by omega
    have k03 := Stay.trans k02 s3
    have hL3 := s3 _ _ nL hL2
    clear hts lts ly ry s3 hp2 hD hL2 k02 d0 d1
    have ex3 : ∀ b o, b ≠ p → H b = some o → (∀ ps, o ≠ .tbl ps) → H3 b = some o := fun b o n e _ => k03 b o n e
    have tb3 : LamX.Tabs (tabs2 P1 P2) H3 := tabs_keep hT (UL.Stay.keep k03 hp)
    clear k03
    apply with_rest (F := fun (D' : Addr) (H' : Hp) => ∃ (tvs : List V) (us : List Th), Pot H' p ∧ LamX.Tabs (tabs2 P1 P2) H' ∧ H' L = some (.lst (ns.map V.str)) ∧ (∀ b o, b ≠ p → H b = some o → (∀ ps, o ≠ .tbl ps) → H' b = some o) ∧ H' D' = some (.lst tvs) ∧ Each (TTok K ad p H') tvs us ∧ us.length ≤ 7)
    rotate_left
    · intro rest
      walk_at "go"
      rename_i d H4 d0 d1 hp4 st4
      have hL4 := st4 _ _ nL hL3
      have tb4 : LamX.Tabs (tabs2 P1 P2) H4 := tabs_keep tb3 (UL.Stay.keep st4 p3)
      have ex4 : ∀ b o, b ≠ p → H b = some o → (∀ ps, o ≠ .tbl ps) → H4 b = some o := fun b o n e nt => st4 _ _ n (ex3 b o n e nt)
      rcases (Decidable.em (0 < d)).symm with c | c
      · rw [decide_eq_false c]
        walk_at "go"
        have F : ∃ (tvs : List V) (us : List Th), Pot H4 p ∧ LamX.Tabs (tabs2 P1 P2) H4 ∧ H4 L = some (.lst (ns.map V.str)) ∧ (∀ b o, b ≠ p → H b = some o → (∀ ps, o ≠ .tbl ps) → H4 b = some o) ∧ H4 D = some (.lst tvs) ∧ Each (TTok K ad p H4) tvs us ∧ us.length ≤ 7 := ⟨ys, ts, hp4, tb4, hL4, ex4, st4 _ _ nD hD3, hE3.imp fun v t k => k.stay p3 st4, lt7⟩
        generalize D = G at F ⊢
        generalize H4 = H' at F ⊢
        exact rest G H' F
      · rw [decide_eq_true c]
        walk_at "go"
        rename_i d' H5 d0' d1' hp5 st5 S hS
        obtain ⟨m, rfl⟩ : ∃ m : Nat, d' = (m : Int) := ⟨d'.toNat, by omega⟩
        have eS : cutV (ns.map V.str) none (some (m : Int)) = (ns.take m).map V.str := by rw [cut_to, List.map_take]
        simp only [eS]
        have sS := same_new (o := .lst ((ns.take m).map V.str)) hS
        have hp6 := hp5.same sS
        have nS : S ≠ p := by walk_at "ne"
        refine ⟨⟨_, SqL.of upd_same⟩, fun D2 hD2 => lc_stayD (walk_list (xs := (ns.take m).map V.str)) hD2 hp6 (fun i v H => ∃ k : KD, (ns.take m)[i]? = some k.n ∧ TTok K ad p H v (.kind k)) (fun i v H H' ⟨k, e, h⟩ hD hp s => ⟨k, e, h.off (fun d z => by cases z) hD hp s⟩) (by rw [List.length_map, List.length_take]; omega) (fun H s _ => SqL.of (s _ _ nS upd_same)) (fun i y H7 H' hi s7 p7 hd7 hy Z hZ => ?_) (fun H7 zs lz rz s7 p7 hD7 => ?_)⟩
        · obtain ⟨rfl, hy⟩ := hy
          obtain ⟨n, hn, rfl⟩ := at_strs' hy
          have nm := nmS n (List.mem_of_mem_take (List.mem_of_getElem? hn))
          walk_at "go"
          rename_i t kd H8 ek okk ht hp8 st8 v H9 hk hp9 st9 t2 ht2
          subst ek
          have stt := same_new (o := .tup [v, V.str kd.n]) ht2
          exact hZ _ _ ⟨kd, hn, t2, v, rfl, upd_same, ⟨hk.same stt, okk⟩, okk⟩ (Stay.trans st8 (Stay.trans st9 (UL.Same.stay stt p))) (hp9.same stt)
        obtain ⟨ks, lk, hks⟩ := each_choose (R := fun i v k => TTok K ad p H7 v (.kind k)) fun i y h => by
          obtain ⟨k, _, h⟩ := rz i y h
          exact ⟨k, h⟩
        have lz7 : zs.length ≤ 7 := by
          rw [lz, List.length_map, List.length_take]
          omega
        have k47 : Stay p H4 H7 := Stay.trans st5 (Stay.trans (UL.Same.stay sS p) s7)
        have F : ∃ (tvs : List V) (us : List Th), Pot H7 p ∧ LamX.Tabs (tabs2 P1 P2) H7 ∧ H7 L = some (.lst (ns.map V.str)) ∧ (∀ b o, b ≠ p → H b = some o → (∀ ps, o ≠ .tbl ps) → H7 b = some o) ∧ H7 D2 = some (.lst tvs) ∧ Each (TTok K ad p H7) tvs us ∧ us.length ≤ 7 := by
          refine ⟨zs, ks.map .kind, p7, tabs_keep tb4 (UL.Stay.keep k47 hp4), k47 _ _ nL hL4, fun b o n e nt => k47 _ _ n (ex4 b o n e nt), hD7, ⟨by rw [List.length_map, lk], fun i v t h1 h2 => ?_⟩, by rw [List.length_map, lk]; exact lz7⟩
          rw [List.getElem?_map] at h2
          obtain ⟨k, h3, rfl⟩ := Option.map_eq_some_iff.mp h2
          exact hks i v k h1 h3
        walk_at "go"
        generalize D2 = G at F ⊢
        generalize H7 = H' at F ⊢
        exact rest G H' F
    intro D1 H5 hF
    obtain ⟨tvs, us, hp5, tb5, hL5, ex5, hD5, hE5, lu⟩ := hF
    walk_at "go"
    have lt5 := hE5.1
    obtain ⟨uvs, luv, huv⟩ := each_choose (ys := tvs) (R := fun i v u => ∃ a t, v = .ref a ∧ H5 a = some (.tup [u, labV t]) ∧ us[i]? = some t ∧ ThAt K ad H5 u t) fun i y h => by
      obtain ⟨t, ht, a, u, rfl, h1, h2, _⟩ := hE5.at h
      exact ⟨u, a, t, rfl, h1, ht, h2⟩
    refine ⟨⟨tvs, SqL.of hD5⟩, fun D2 hD2 => lc_same (walk_list (xs := tvs)) hD2 (fun i => uvs.getD i .non) (by omega) (fun H2 s2 => SqL.of (s2 _ _ hD5)) (fun i y H6 H' hi s2 hy R hR => ?_) (fun H6 s6 hd => ?_)⟩
    · obtain ⟨rfl, hy⟩ := hy
      have hu : i < uvs.length := by omega
      obtain ⟨a, t, rfl, h1, ht, h2⟩ := huv i y _ hy (List.getElem?_eq_getElem hu)
      have h1' := s2 _ _ h1
      rw [show uvs.getD i .non = uvs[i] by simp [hu]] at hR
      walk_at "go"
      exact hR _ (L2.Same.refl _)
    rw [← luv, range_getD] at hd
    have hEu : Each (ThAt K ad H6) uvs us := ⟨by omega, fun i u t h1 h2 => by
      have hi := (List.getElem?_eq_some_iff.mp h1).1
      have hi' : i < tvs.length := by omega
      obtain ⟨a, t', _, _, ht, h3⟩ := huv i _ u (List.getElem?_eq_getElem hi') h1
      rw [h2] at ht
      cases ht
      exact h3.same s6⟩
    have hE6 : Each (TTok K ad p H6) tvs us := hE5.imp fun v t k => k.ext (LamX.ExtN.of s6)
    have hL6 := s6 _ _ hL5
    have hD6 := s6 _ _ hD5
    have hp6 := hp5.same s6
    have tb6 := tb5.ext s6
    have ex6 : ∀ b o, b ≠ p → H b = some o → (∀ ps, o ≠ .tbl ps) → H6 b = some o := fun b o n e nt => s6 _ _ (ex5 b o n e nt)
    clear huv luv hE5 hD5 hL5 hp5 tb5 ex5 s6 hD2
    walk_at "go"
    refine ⟨p, D2, uvs, us, rfl, hd, hEu, mem_toks hE6, lu, tb6, fun H7 e7 tb7 => ?_⟩
    have hE7 : Each (TTok K ad p H7) tvs us := hE6.imp fun v t k => k.ext e7
    have hL7 := e7 _ _ hL6 (by simp)
    have hD7 := e7 _ _ hD6 (by simp)
    have hp7 : Pot H7 p := by
      obtain ⟨x, y, e, r⟩ := hp6
      exact ⟨x, y, e7 _ _ e (by simp), r⟩
    have ex7 : ∀ b o, b ≠ p → H b = some o → (∀ ps, o ≠ .tbl ps) → H7 b = some o := fun b o n e nt => e7 _ _ (ex6 b o n e nt) nt
    clear e7 hE6 hL6 hD6 hp6 tb6 ex6 hEu hd
    walk_at "go"
    refine ⟨p, D1, tvs, us, rfl, hD7, hE7.imp fun v t k => k.tt, mem_toks hE7, by omega, fun H8 s8 => ?_⟩
    have hL8 := s8 _ _ hL7
    have hp8 := hp7.same s8
    have tb8 := tb7.ext s8
    have ex8 : ∀ b o, b ≠ p → H b = some o → (∀ ps, o ≠ .tbl ps) → H8 b = some o := fun b o n e nt => s8 _ _ (ex7 b o n e nt)
    clear s8 hE7 hL7 hD7 hp7 tb7 ex7
    walk_at "go"
    rename_i d' H9 d0' d1' hp9 st9 S hS
    obtain ⟨m, hm⟩ : ∃ m : Nat, 1 + d' = (m : Int) := ⟨(1 + d').toNat, by omega⟩
    have m15 : 1 ≤ m ∧ m ≤ 5 := by omega
    have eS : cutV (ns.map V.str) none (some (1 + d')) = (ns.take m).map V.str := by rw [hm, cut_to, List.map_take]
    simp only [eS]
    have sS := same_new (o := .lst ((ns.take m).map V.str)) hS
    have hpA := hp9.same sS
    have nS : S ≠ p := by walk_at "ne"
    refine ⟨⟨_, SqL.of upd_same⟩, fun RL hRL => lc_stayD (walk_list (xs := (ns.take m).map V.str)) hRL hpA (fun i v H => ∃ k : KD, (ns.take m)[i]? = some k.n ∧ TTok K ad p H v (.kind k)) (fun i v H H' ⟨k, e, h⟩ hD hp s => ⟨k, e, h.off (fun d z => by cases z) hD hp s⟩) (by rw [List.length_map, List.length_take]; omega) (fun H s _ => SqL.of (s _ _ nS upd_same)) (fun i y HB H' hi sB pB hdB hy Z hZ => ?_) (fun HB zs lz rz sB pB hDB => ?_)⟩
    · obtain ⟨rfl, hy⟩ := hy
      obtain ⟨n, hn, rfl⟩ := at_strs' hy
      have nm := nmS n (List.mem_of_mem_take (List.mem_of_getElem? hn))
      walk_at "go"
      rename_i t kd H8 ek okk ht hp8 st8 v H9 hk hp9 st9 t2 ht2
      subst ek
      have stt := same_new (o := .tup [v, V.str kd.n]) ht2
      exact hZ _ _ ⟨kd, hn, t2, v, rfl, upd_same, ⟨hk.same stt, okk⟩, okk⟩ (Stay.trans st8 (Stay.trans st9 (UL.Same.stay stt p))) (hp9.same stt)
    obtain ⟨ks, lk, hks⟩ := each_choose (R := fun i v (k : KD) => (ns.take m)[i]? = some k.n ∧ TTok K ad p HB v (.kind k)) fun i y h => rz i y h
    have lm : (ns.take m).length = m := by rw [List.length_take]; omega
    have lzm : zs.length = m := by rw [lz, List.length_map, lm]
    have lkm : ks.length = m := by omega
    have at_ : ∀ (i : Nat) k, ks[i]? = some k → ∃ v, zs[i]? = some v ∧ (ns.take m)[i]? = some k.n ∧ TTok K ad p HB v (.kind k) := fun i k h => by
      have hi := (List.getElem?_eq_some_iff.mp h).1
      have hi' : i < zs.length := by omega
      exact ⟨zs[i], List.getElem?_eq_getElem hi', hks i _ k (List.getElem?_eq_getElem hi') h⟩
    have en : ks.map KD.n = ns.take m := by
      refine List.ext_getElem (by rw [List.length_map, lkm, lm]) fun i h1 h2 => ?_
      rw [List.getElem_map]
      have h1' : i < ks.length := by simpa using h1
      obtain ⟨_, _, e, _⟩ := at_ i _ (List.getElem?_eq_getElem h1')
      rw [List.getElem?_eq_getElem h2] at e
      exact (Option.some.inj e).symm
    have okb : bok ks := ⟨fun k hk => by
      obtain ⟨i, hi⟩ := List.getElem?_of_mem hk
      obtain ⟨_, _, _, h⟩ := at_ i k hi
      exact h.tok, by rw [en]; exact List.Nodup.sublist (List.take_sublist _ _) ndS, by omega, by omega⟩
    have k8B : Stay p H8 HB := Stay.trans st9 (Stay.trans (UL.Same.stay sS p) sB)
    have hLB := k8B _ _ nL hL8
    have tbB := tabs_keep tb8 (UL.Stay.keep k8B hp8)
    have exB : ∀ b o, b ≠ p → H b = some o → (∀ ps, o ≠ .tbl ps) → HB b = some o := fun b o n e nt => k8B _ _ n (ex8 b o n e nt)
    have hEB : Each (fun v k => TTok K ad p HB v (.kind k)) zs ks := ⟨lk.symm, fun i v k h1 h2 => (hks i v k h1 h2).2⟩
    have nRL : RL ≠ p := ne_pot hRL hpA
    clear en at_ lz rz hks k8B sB hRL nS hpA sS hS eS st9 hp9 d0' d1' hm hL8 hp8 tb8 ex8 hE3 hD3 hL3 ex3 tb3 p3 lm
    obtain ⟨z0, zr, rfl⟩ : ∃ z0 zr, zs = z0 :: zr := by
      match zs, lzm with
      | [], h => exact absurd h (by simp; omega)
      | z0 :: zr, _ => exact ⟨z0, zr, rfl⟩
    obtain ⟨k0, kr, rfl⟩ : ∃ k0 kr, ks = k0 :: kr := by
      match ks, lkm with
      | [], h => exact absurd h (by simp; omega)
      | k0 :: kr, _ => exact ⟨k0, kr, rfl⟩
    obtain ⟨a0, u0, rfl, ha0, hu0, hk0⟩ := hEB.2 0 _ _ rfl rfl
    walk_at "go"
    rename_i x dx nx nd ne
    have ok1 : bok [k0] := by have := okb.take (n := 1) (Nat.le_refl 1); simpa using this
    refine bmade1 (ts := [.kind k0]) nx nd ne (Each.one hu0) (by simp) (bout_made ok1) fun HC sC hBC => ⟨rfl, ?_⟩
    have hLC := sC _ _ hLB
    have hDC := sC _ _ hDB
    have pC := pB.same sC
    have tbC := tbB.ext sC
    have exC : ∀ b o, b ≠ p → H b = some o → (∀ ps, o ≠ .tbl ps) → HC b = some o := fun b o n e nt => sC _ _ (exB b o n e nt)
    have hEC : Each (fun v k => TTok K ad p HC v (.kind k)) (V.ref a0 :: zr) (k0 :: kr) := hEB.imp fun v k h => h.ext (LamX.ExtN.of sC)
    clear hLB hDB pB tbB exB hEB ha0 hu0 hk0 nx nd ne sC
    walk_at "go"
    rename_i tl htl
    have et : cutV (V.ref a0 :: zr) (some 1) none = zr := by
      have := cut_from (V.ref a0 :: zr) 1
      simpa using this
    rw [et]
    have stl := same_new (o := .lst zr) htl
    refine ⟨⟨zr, SqL.of upd_same⟩, ?_⟩
    refine for_it (walk_list (xs := zr)) (fun i σ H' => Hold (∃ v a b, σ = [some (.ref p), some (.ref L), some (.ref D1), none, a, b, some (.ref RL), some v, none, none] ∧ BookAt ad H' v ((k0 :: kr).take (i + 1)) ∧ L2.Same (upd HC tl (.lst zr)) H')) ?_ (fun i σ HD _ hh => ?_) (fun i y σ HD H' hi hh hy => ?_) (fun σ HD hh => ?_)
    · exact Hold.mk ⟨_, _, _, rfl, by
        have := hBC.same stl
        simpa using this, L2.Same.refl _⟩
    · obtain ⟨_, _, _, _, _, s⟩ := hh.out
      exact SqL.of (s _ _ upd_same)
    · obtain ⟨v, a, b, es, hv, sD⟩ := hh.out
      clear hh
      subst es
      obtain ⟨rfl, hy⟩ := hy
      obtain ⟨k, hk, a1, u, rfl, h1, h2, _⟩ := (show Each (fun v k => TTok K ad p HC v (.kind k)) zr kr from ⟨by have := hEC.1; simpa using this, fun i x y a b => hEC.2 (i + 1) x y (by simpa using a) (by simpa using b)⟩).at hy
      have h1' := sD _ _ (stl _ _ h1)
      have h2' := (h2.same stl).same sD
      obtain ⟨⟨ka, kd, kp, rfl, k1, k2⟩, kok⟩ := id h2'
      obtain ⟨ba, bd, b3, b4, b5, b6, b7, rfl, b8, _⟩ := id hv
      walk_at "go"
      refine ⟨.inr (.inl ⟨_, rfl, T.no_Kind⟩), _, _, (k0 :: kr).take (i + 1), .kind k, rfl, hv, h2', ?_⟩
      have eT : ((k0 :: kr).take (i + 1)).map Th.kind ++ [.kind k] = ((k0 :: kr).take (i + 1 + 1)).map Th.kind := by
        rw [← take_snoc (l := k0 :: kr) (i := i + 1) (x := k) (by simpa using hk), List.map_append]
        rfl
      rw [eT]
      refine makes_ok (bout_made (okb.take (by omega))) fun v' HE sE hBE => ?_
      exact Hold.mk ⟨_, _, _, rfl, hBE, sD.trans sE⟩
    obtain ⟨v, a, b, es, hv, sD⟩ := hh.out
    clear hh
    subst es
    have lzr : zr.length + 1 = (k0 :: kr).length := by rw [lk, List.length_cons]
    rw [List.take_of_length_le (by omega)] at hv
    obtain ⟨ba, bd, b3, b4, b5, b6, b7, rfl, b8, _⟩ := id hv
    have sCD := stl.trans sD
    have hLD := sCD _ _ hLC
    have hDD := sCD _ _ hDC
    have pD := pC.same sCD
    have tbD := tbC.ext sCD
    have exD : ∀ b o, b ≠ p → H b = some o → (∀ ps, o ≠ .tbl ps) → HD b = some o := fun b o n e nt => sCD _ _ (exC b o n e nt)
    have hED : Each (fun v k => TTok K ad p HD v (.kind k)) (V.ref a0 :: zr) (k0 :: kr) := hEC.imp fun v k h => h.ext (LamX.ExtN.of sCD)
    clear hLC hDC pC tbC exC hEC sCD sD stl et htl hBC ok1 lzr
    walk_at "go"
    rename_i EL hEL
    have sEL := same_new (o := .lst (nms (k0 :: kr))) hEL
    have nEL : EL ≠ p := ne_pot hEL pD
    have B0 : B25 K ad (tabs2 P1 P2) p L RL EL ns (k0 :: kr) (.ref ba) H (upd HD EL (.lst (nms (k0 :: kr)))) := ⟨tbD.ext sEL, pD.same sEL, nL, nRL, nEL, sEL _ _ hLD, ⟨_, sEL _ _ hDD, hED.imp fun v k h => h.ext (LamX.ExtN.of sEL)⟩, hv.same sEL, by rw [nms_eq]; exact upd_same, fun b o n e nt => sEL _ _ (exD b o n e nt)⟩
    generalize upd HD EL (.lst (nms (k0 :: kr))) = HF at B0 ⊢
    clear sEL hLD hDD pD tbD exD hED hv hEL b8
    generalize (k0 :: kr) = ks at B0 okb lk
    walk_at "go"
    refine for_it walk_range (fun i σ H' => Hold (∃ a b c d, σ = [some (.ref p), some (.ref L), some (.ref D1), a, b, c, some (.ref RL), some (.ref ba), some (.ref EL), d] ∧ B25 K ad (tabs2 P1 P2) p L RL EL ns ks (.ref ba) H H')) (Hold.mk ⟨_, _, _, _, rfl, B0⟩) (fun _ _ _ _ _ => trivial) (fun i y σ HG H' hi hh hy => ?_) (fun σ HG hh => ?_)
    · obtain ⟨a, b, c, d, es, B⟩ := hh.out
      clear hh B0
      subst es
      obtain ⟨rfl, rfl⟩ := hy
      have hLx := B.lab
      have hpx := B.pot
      have nLx := B.nL
      walk_at "go"
      rename_i v t HI hth htk _ hpI stI
      have BI := B.stay stI hpI
      obtain ⟨a1, u, rfl, h1, h2⟩ := hth
      clear B hLx hpx stI hpI
      refine told_step BI.tb p (ks.map Th.kind ++ [t]) (toks_app (toks_kinds okb) (toks_one htk)) (fun HJ E' Q' e1 T1 m => ?_) (fun HJ e2 T2 => ?_)
      · have h1' := e1 _ _ h1 (by simp)
        have h2' := h2.ext e1
        have hb := (BI.ext e1 T1).bk
        obtain ⟨ba', bd, b3, b4, b5, b6, b7, eb, b8, _⟩ := id hb
        cases eb
        clear BI e1 h1 h2
        cases t with
        | kind k =>
          obtain ⟨⟨ka, kd, kp, rfl, k1, k2⟩, kok⟩ := id h2'
          walk_at "go"
          exact ⟨.inr (.inl ⟨_, rfl, T.no_Kind⟩), _, _, ks, .kind k, rfl, hb, h2', m⟩
        | odd w d =>
          obtain ⟨rfl, hv⟩ := id h2'
          have ty := hv.ty
          walk_at "go"
          exact ⟨.inr (.inr ⟨_, rfl, T.oa_Book _ (tyN_mem d)⟩), _, _, ks, .odd u d, rfl, hb, h2', m⟩
      have BJ := BI.ext e2 T2
      have hA : TTok K ad p HJ (.ref a1) t := ⟨a1, u, rfl, e2 _ _ h1 (by simp), h2.ext e2, htk.ext e2⟩
      clear BI h1 h2 htk e2 T2
      obtain ⟨tvs, hR, hRE⟩ := BJ.rl
      have ltv := hRE.1
      have lk5 := okb.hi
      walk_at "go"
      rename_i q1 hq1 q2 hq2
      have sq := (same_new (o := .lst [V.ref a1]) hq1).trans (same_new (o := .lst (tvs ++ [V.ref a1])) hq2)
      have eA : Each (TTok K ad p HJ) (tvs ++ [V.ref a1]) (ks.map Th.kind ++ [t]) := Each.app (each_kinds hRE) (Each.one hA)
      refine ⟨p, q2, tvs ++ [.ref a1], ks.map Th.kind ++ [t], rfl, upd_same, eA.imp fun v t k => (k.ext (LamX.ExtN.of sq)).tt, (mem_toks eA).ext (LamX.ExtN.of sq), by rw [List.length_append, List.length_map]; simp; omega, fun HK sK => ?_⟩
      have BK := (BJ.same sq).same sK
      have nms_ : ∀ l ∈ ksn ks, isNm l := fun l hl => by
        obtain ⟨k, hk, rfl⟩ := List.mem_map.mp hl
        exact (okb.ok k hk).nm
      clear eA sq sK hq1 hq2 BJ hA hR hRE ltv
      have hb := BK.bk
      have he := BK.el
      obtain ⟨ba', bd, b3, b4, b5, b6, b7, eb, b8, _⟩ := id hb
      cases eb
      walk_at "go"
      rename_i n1 hn1
      have sn := same_new (o := .lst (nms ks)) hn1
      refine ⟨rowD (ksn ks), rowD (ksn ks), dp_row (by rw [← show nms ks = (ksn ks).map V.str from nms_eq ks]; exact upd_same), dp_row (sn _ _ he), shaped_row nms_, shaped_row nms_, ?_⟩
      rw [eqv_row nms_]
      walk_at "go"
      exact Hold.mk ⟨_, _, _, _, rfl, BK.same sn⟩
    obtain ⟨a, b, c, d, es, B⟩ := hh.out
    clear hh B0
    subst es
    have e : shownB (ks.map Th.kind) = (PyData.list (outL (.made ks))).shown := by
      unfold shownB
      rw [bout_made okb]
    walk_at "go"
    refine told_step B.tb p (ks.map Th.kind) (toks_kinds okb) (fun HJ E' Q' e1 T1 m => ?_) (fun HJ e2 T2 => ?_)
    · exact ⟨_, rfl, m.2 ks (bout_made okb) _ _ (L2.Same.refl _) (B.ext e1 T1).bk⟩
    rw [e]
    have BJ := B.ext e2 T2
    have he := BJ.el
    walk_at "go"
    rename_i pz hpz
    have sz := same_new (o := .lst (outV EL (.made ks))) hpz
    dsimp only [tNil]
    refine told_repr (p := p) (D := EL) (o := .made ks) ⟨fun k hk => (okb.ok k hk).nm, okb.hi⟩ upd_same (fun ks' z => ?_) ?_
    · cases z
      rw [nms_eq]
      exact sz _ _ he
    have BZ := BJ.same sz
    have fin := q _ BZ.tb BZ.ex
    walk_at "go"
    first
      | exact fin
      | (rw [decide_eq_true rfl]; exact fin)
end
end K25
set_option Elab.async false
set_option linter.all false
set_option maxRecDepth 100000
set_option maxHeartbeats 4000000


namespace K25
open PySem L2 UL ClX
local macro_rules | `(tactic| walk_at "txt") => `(tactic| first
  | ((with_reducible show L2.SqT _ _ _ _); first | exact Txt.t_GROUPS (by assumption) _ | exact Txt.t_ALIGNMENTS (by assumption) _ | exact Txt.t_SIZES (by assumption) _)
  | ((with_reducible show L2.Cls _ _); first | exact UL.CIsi.cl (Txt.i_Kind (by assumption)) | exact UL.CIsi.cl (Txt.i_Book (by assumption)))
  | ((with_reducible show UL.CIsi _ _); first | exact Txt.i_Kind (by assumption) | exact Txt.i_Book (by assumption))
  | ((with_reducible show L2.NoAttr _ _ _); first | exact Txt.n_Kind_name (by assumption) | exact Txt.n_Kind_group (by assumption) | exact Txt.n_Kind_size (by assumption) | exact Txt.n_Kind_width (by assumption) | exact Txt.n_Kind_align (by assumption) | exact Txt.n_Kind_parts (by assumption) | exact Txt.n_Book_kinds (by assumption) | exact Txt.n_Book_names (by assumption) | exact Txt.n_Book_parts (by assumption))
  | ((with_reducible show L2.TyX _ _ _ _); first | exact UL.CIsi.ty (Txt.i_Kind (by assumption)) (by walk_at "look") | exact UL.CIsi.ty (Txt.i_Book (by assumption)) (by walk_at "look"))
  | ((with_reducible show PySem.W.kitOne _ (.type _) (.ref _) = _); first | exact ((Txt.k_Kind (by assumption)) _ (by simp)).1 | exact ((Txt.k_Book (by assumption)) _ (by simp)).1)
  | ((with_reducible show _ = PySem.Value.ref _ ∨ _); first | exact .inl rfl | exact .inr ⟨_, rfl, Txt.no_Kind (by assumption)⟩)
  | fail)
theorem five5 {z : Int} : (if (if z < 5 then z else 5) > 1 then (if z < 5 then z else 5) else 1) ≤ 5 ∧ 1 ≤ (if (if z < 5 then z else 5) > 1 then (if z < 5 then z else 5) else 1) := by
  by_cases c : z < 5
  · rw [if_pos c]
    by_cases d : z > 1
    · rw [if_pos d]
      omega
    · rw [if_neg d]
      decide
  · rw [if_neg c, if_pos (by decide)]
    decide
theorem sq_past2 {K : PySem.W.Frag} {a p : Addr} {H H1 H2 : Hp} {xs : List V} (h : SqL K H a xs) (hp : H p = none) (s : L2.Same H H1) (st : ∀ b o, b ≠ p → H1 b = some o → (∀ ps, o ≠ .tbl ps) → H2 b = some o) : SqL K H2 a xs := by
  rcases h with (h | ⟨o, h⟩) | h
  · exact .inl (.inl (st _ _ (ne_of_none h hp) (s _ _ h) (by simp)))
  · exact .inl (.inr ⟨o, st _ _ (ne_of_none h hp) (s _ _ h) (by simp)⟩)
  · exact .inr h
theorem tabs_grow {T : List (Addr × Str)} {H : Hp} {D : Addr} {xs ys : List V} (h : LamX.Tabs T H) (d : H D = some (.lst xs)) : LamX.Tabs T (upd H D (.lst ys)) :=
  tabs_keep h fun b u e nn => by
    rw [upd_ne (fun z => nn xs (Option.some.inj (e.symm.trans (by rw [z]; exact d))))]
    exact e
section
variable {P : Program} {w : World} {K : PySem.W.Frag} {mg : Str → Option Value} {base : Heap} {ad : Ad}
variable {P1 P2 : Addr}
/-- law(script) -/
def spLaw (K : PySem.W.Frag) (P1 P2 : Addr) : Sp := fun vs H Q _ => ∃ (a : Addr) (ns : List Int), vs = [.ref a] ∧ SqL K H a (ns.map V.int) ∧ ns.length ≤ 63 ∧ LamX.Tabs (tabs2 P1 P2) H ∧ ∀ H' : Hp, Q (.bl true) H'
abbrev st_law : Stmt := top 40
theorem sc_law : FnScope ["_law_script", "_law_k"] ["_law_script"] (defScope st_law) := ⟨rfl, rfl, rfl, by decide +kernel, rfl, by decide +kernel, by decide +kernel⟩
theorem ok_law {f : Addr} {fd : FuncData} (F : Fun K "law" "law" st_law f fd) (T : Txt K mg ad) (c_l_right : CalG P w K mg base 9 "_law_right" (spRight P1 P2)) (c_l_pot : Cal P w K mg base 1 "_law_pot" (spPot K)) :
    FnG P w K mg base 10 f fd ["_law_script"] (spLaw K P1 P2) := by
  refine FnG.mk' F sc_law (fun vs H Q E h => ?_) (fun cdv A outer s H vs Q E hgd hr h => ?_)
  · obtain (⟨a, ns, rfl, hS, hn, hT, q⟩) := h
    rfl
  · obtain (⟨a, ns, rfl, hS, hn, hT, q⟩) := h
    refine ⟨_, pss_one (ps_ret (pe_callB (cr_all rfl) (by rfl) T.bi.all (by decide +kernel) (pa_cons (pe_lc (own := [("_law_k", 1)]) (g := gName 1) (tt := tYes) rfl sc_law.nd (pi_range1 (by rfl) T.bi.range (pa_cons (pe_callB (call_max2 rfl) (by rfl) T.bi.max (by decide +kernel) (pa_cons pe_int (pa_cons (pe_callB (call_min2 rfl) (by rfl) T.bi.min (by decide +kernel) (pa_cons pe_int (pa_cons (pe_callB call_len_seq (by rfl) T.bi.len (by decide +kernel) (pa_cons (pv 0) pa_nil)) pa_nil))) pa_nil))) pa_nil)) (blkOk_by (N := ["_law_script", "_law_k"]) (sc := defScope st_law) (by decide +kernel)) (fun _ _ _ _ _ => pg_name (i := 1) sc_law.nd rfl (Or.inl rfl)) (fun _ _ _ _ _ => pts_nil) (fun _ _ _ _ _ => UL.pe_conv (pe_cG hgd c_l_right hr (by decide) (by rfl) (pa_cons (pe_c c_l_pot hr (by decide) (by rfl) (pa_cons (pv 0) (pa_cons (pv 1) pa_nil))) pa_nil)) (by walk_at "unk"))) pa_nil))), ?_⟩
    refine ⟨_, rfl, a, _, rfl, .inl hS, ?_⟩
    refine ⟨_, _, rfl, _, _, rfl, ?_⟩
    obtain ⟨m3, m1⟩ := five5 (z := ((ns.map V.int).length : Int))
    generalize (if (if ((ns.map V.int).length : Int) < 5 then ((ns.map V.int).length : Int) else 5) > 1 then (if ((ns.map V.int).length : Int) < 5 then ((ns.map V.int).length : Int) else 5) else 1) = m at m3 m1
    refine ⟨m, rfl, by omega, by omega, fun D hD => ?_⟩
    refine lc_it (walk_range (lo := 0) (n := m.toNat)) (fun i H' => H' D = some (.lst ((List.replicate i true).map V.bl)) ∧ SqL K H' a (ns.map V.int) ∧ LamX.Tabs (tabs2 P1 P2) H') ⟨upd_same, sq_same hS (same_new hD), hT.ext (same_new hD)⟩ (fun _ _ _ _ => trivial) (fun i x H1 H' hi ⟨d1, s1, t1⟩ hy => ?_) (fun H' ⟨d1, s1, t1⟩ => ?_)
    · obtain ⟨rfl, rfl⟩ := hy
      refine ⟨rfl, _, rfl, _, rfl, a, ns, _, rfl, s1, by omega, by omega, fun p H1 np hp sm => ?_⟩
      refine ⟨p, rfl, hp, t1.ext sm, fun H2 t2 st => ?_⟩
      have d2 := st _ _ (ne_of_none d1 np) (sm _ _ d1) (by simp)
      refine ⟨_, d2, line_gt (by rw [List.length_map, List.length_replicate]; omega), ?_, ?_, ?_⟩
      · rw [List.replicate_succ', List.map_append]
        exact upd_same
      · exact sq_off hS hD _ _ (sq_past2 s1 np sm st)
      · exact tabs_grow t2 d2
    · refine ⟨D, _, rfl, SqL.of d1, ?_⟩
      rw [all_true]
      exact q H'
end
end K25
set_option Elab.async false
set_option linter.all false
set_option maxRecDepth 100000
set_option maxHeartbeats 4000000
namespace K25
open PySem PySem.Spec PyProof.Rows L2 UL ClX
theorem fnR_mono {P : Program} {w : World} {K : PySem.W.Frag} {mg : Str → Option Value} {base : Heap} {CX : CXT} {j k : Nat} {f : Addr} {sp : Sp} (F : FnR P w K mg base CX j f sp) (h : j ≤ k) : FnR P w K mg base CX k f sp := fun A outer s H us vs Q E hr => F A outer s H us vs Q E (hr.mono h)
theorem relB {vs ds mz zs : List V} {us its mv ws : List Value} (r1 : Vals vs us) (r2 : Vals ds its) (r3 : Vals mz mv) (r4 : Vals zs ws) : Vals (gB vs ds mz zs) (gB us its mv ws) := by
  cases r4 with
  | nil => exact .nil
  | cons a r4 => cases r4 with
    | nil => exact .nil
    | cons b r4 => cases r4 with
      | nil => exact .nil
      | cons c r4 => cases r4 with
        | nil => exact .nil
        | cons d r4 => cases r4 with
          | nil => exact ((r1.append (.cons a .nil)).append r2).append (.cons d (.cons c (.cons b .nil)))
          | cons e r4 => exact .nil
theorem ks_of {K : PySem.W.Frag} {C D : Addr} {b : Bool} (h2 : PySem.W.isClsIn K D = true) (h3 : PySem.W.typeIn K (.ref D) = some (.type "type")) (h4 : PySem.W.subIn K (.ref C) (.ref D) = some b) : PySem.W.kitCls K (.ref C) (.ref D) = some b := by
  unfold PySem.W.kitCls
  dsimp only
  rw [if_pos (by rw [h3]; simp [show (PySem.W.clsIn K D).isSome = true from h2])]
  exact h4
theorem kb_of {K : PySem.W.Frag} {C : Addr} {T : String} {b : Bool} (h : PySem.W.kitMeta T = true) (h4 : PySem.W.subIn K (.ref C) (.type T) = some b) : PySem.W.kitCls K (.ref C) (.type T) = some b := by
  unfold PySem.W.kitCls
  dsimp only
  rw [if_pos h]
  exact h4
theorem dr_mul : PySem.dunderR "mul" = ("__rmul__" : Str) := by decide +kernel
theorem xm_of {K : PySem.W.Frag} {C D : Addr} {b : Bool} (h1 : PySem.W.subIn K (.ref D) (.type "BaseException") = some true) (h2 : PySem.W.isClsIn K D = true) (h3 : PySem.W.typeIn K (.ref D) = some (.type "type")) (h4 : PySem.W.subIn K (.ref C) (.ref D) = some b) : PySem.W.exmOne K (.ref C) (.ref D) = some b := by
  unfold PySem.W.exmOne PySem.W.kitCls
  rw [if_pos (by rw [h1]; rfl)]
  dsimp only
  rw [if_pos (by rw [h3]; simp [show (PySem.W.clsIn K D).isSome = true from h2])]
  exact h4
theorem core {l : PySem.W.OpenLaw} {w : World} {K : PySem.W.Frag} {h : Heap} {mg : Str → Option Value} {P1 P2 : Addr} {ad : Ad} {f_law : Addr} {xN_CallError xN_LimitError xN_InvalidName xN_InvalidKind xN_InvalidBook xN_TooMany f_is_integer f_is_between f_is_one_of f_is_word_of f_is_name f_Kind_init T0_Kind D0_Kind p_Kind_name f_Kind_name f_Kind_parts f_InvalidName_init f_InvalidKind_init f_InvalidBook_init f_TooMany_init f_Book_init f_Book_names f_Book_kinds f_Book_add f_l_draw f_l_pick f_l_pot f_l_row f_l_kind f_l_named f_l_told f_l_thing f_l_due cM1 f_l_at_once cM2 f_l_right : Addr} {xdd_CallError xdd_LimitError xdd_InvalidName xdd_InvalidKind xdd_InvalidBook xdd_TooMany od_is_integer an_is_integer od_is_between an_is_between od_is_one_of an_is_one_of od_is_word_of an_is_word_of od_is_name an_is_name od_Kind_init an_Kind_init odT_Kind od_Kind_name an_Kind_name od_Kind_parts an_Kind_parts od_InvalidName_init an_InvalidName_init od_InvalidKind_init an_InvalidKind_init od_InvalidBook_init an_InvalidBook_init od_TooMany_init an_TooMany_init od_Book_init an_Book_init od_Book_names an_Book_names od_Book_kinds an_Book_kinds od_Book_add an_Book_add od_l_draw an_l_draw od_l_pick an_l_pick od_l_pot an_l_pot od_l_row an_l_row od_l_kind an_l_kind od_l_named an_l_named od_l_told an_l_told od_l_thing an_l_thing od_l_due an_l_due od_l_at_once an_l_at_once od_l_right an_l_right od_law an_law : Option Addr} {slGROUPS slALIGNMENTS slSIZES sl_is_integer sl_is_between sl_is_one_of sl_is_word_of sl_is_name sl_Kind_init slT_Kind sl_Kind_name sl_Kind_parts sl_InvalidName_init sl_InvalidKind_init sl_InvalidBook_init sl_TooMany_init sl_Book_init sl_Book_names sl_Book_kinds sl_Book_add sl_l_draw sl_l_pick sl_l_pot sl_l_row sl_l_kind sl_l_named sl_l_told sl_l_thing sl_l_due sl_l_at_once sl_l_right sl_law : Array (Option Value)} {u_LONGEST_NAME u_NAME_LETTERS u_DOUBLE_SIZE u_LEAST_WIDTH u_LEAST_DOUBLE_WIDTH u_MOST_KINDS oc_is_integer dc_is_integer pm_is_integer cd_is_integer ct_is_integer kV_is_integer oc_is_between dc_is_between pm_is_between cd_is_between ct_is_between kV_is_between oc_is_one_of dc_is_one_of pm_is_one_of cd_is_one_of ct_is_one_of kV_is_one_of oc_is_word_of dc_is_word_of pm_is_word_of cd_is_word_of ct_is_word_of kV_is_word_of oc_is_name dc_is_name pm_is_name cd_is_name ct_is_name kV_is_name oc_Kind_init dc_Kind_init pm_Kind_init cd_Kind_init ct_Kind_init ocT_Kind uk_Kind_size uk_Kind_width uk_Kind_align oc_Kind_name dc_Kind_name pm_Kind_name cd_Kind_name ct_Kind_name kV_Kind_name oc_Kind_parts dc_Kind_parts pm_Kind_parts cd_Kind_parts ct_Kind_parts kV_Kind_parts oc_InvalidName_init dc_InvalidName_init pm_InvalidName_init cd_InvalidName_init ct_InvalidName_init kV_InvalidName_init oc_InvalidKind_init dc_InvalidKind_init pm_InvalidKind_init cd_InvalidKind_init ct_InvalidKind_init kV_InvalidKind_init oc_InvalidBook_init dc_InvalidBook_init pm_InvalidBook_init cd_InvalidBook_init ct_InvalidBook_init kV_InvalidBook_init oc_TooMany_init dc_TooMany_init pm_TooMany_init cd_TooMany_init ct_TooMany_init kV_TooMany_init oc_Book_init dc_Book_init pm_Book_init cd_Book_init ct_Book_init kV_Book_init oc_Book_names dc_Book_names pm_Book_names cd_Book_names ct_Book_names kV_Book_names oc_Book_kinds dc_Book_kinds pm_Book_kinds cd_Book_kinds ct_Book_kinds kV_Book_kinds oc_Book_add dc_Book_add pm_Book_add cd_Book_add ct_Book_add kV_Book_add oc_l_draw dc_l_draw pm_l_draw cd_l_draw ct_l_draw kV_l_draw oc_l_pick dc_l_pick pm_l_pick cd_l_pick ct_l_pick kV_l_pick oc_l_pot dc_l_pot pm_l_pot cd_l_pot ct_l_pot kV_l_pot oc_l_row dc_l_row pm_l_row cd_l_row ct_l_row kV_l_row oc_l_kind dc_l_kind pm_l_kind cd_l_kind ct_l_kind kV_l_kind oc_l_named dc_l_named pm_l_named cd_l_named ct_l_named kV_l_named oc_l_told dc_l_told pm_l_told cd_l_told ct_l_told kV_l_told oc_l_thing dc_l_thing pm_l_thing cd_l_thing ct_l_thing kV_l_thing oc_l_due dc_l_due pm_l_due cd_l_due ct_l_due kV_l_due oc_l_at_once dc_l_at_once pm_l_at_once ct_l_at_once kV_l_at_once oc_l_right dc_l_right pm_l_right ct_l_right kV_l_right oc_law dc_law pm_law cd_law ct_law kV_law : Value} {xbs_CallError xbm_CallError xsub_CallError xbs_LimitError xbm_LimitError xsub_LimitError xbs_InvalidName xbm_InvalidName xsub_InvalidName xbs_InvalidKind xbm_InvalidKind xsub_InvalidKind xbs_InvalidBook xbm_InvalidBook xsub_InvalidBook xbs_TooMany xbm_TooMany xsub_TooMany re_Kind_name : List Value} {itGROUPS itALIGNMENTS itSIZES itT_Kind : Array Value} {ntGROUPS ntALIGNMENTS ntSIZES nT_Kind : Nat} {cldKind : ClassData} {xk0_CallError xk1_CallError xk2_CallError xk3_CallError xk5_CallError xk0_LimitError xk1_LimitError xk2_LimitError xk3_LimitError xk5_LimitError xk0_InvalidName xk1_InvalidName xk2_InvalidName xk3_InvalidName xk5_InvalidName xk0_InvalidKind xk1_InvalidKind xk2_InvalidKind xk3_InvalidKind xk5_InvalidKind xk0_InvalidBook xk1_InvalidBook xk2_InvalidBook xk3_InvalidBook xk5_InvalidBook xk0_TooMany xk1_TooMany xk2_TooMany xk3_TooMany xk5_TooMany fo_str ro_str go_NoneType go_tuple go_str go_int go_list go_bool go_dict gr_NoneType gr_tuple gr_str gr_int gr_list gr_bool gr_dict : Option Value} {xnm_CallError xq_CallError xnm_LimitError xq_LimitError xnm_InvalidName xq_InvalidName xnm_InvalidKind xq_InvalidKind xnm_InvalidBook xq_InvalidBook xnm_TooMany xq_TooMany : Str} {xsn_CallError xsn_LimitError xsn_InvalidName xsn_InvalidKind xsn_InvalidBook xsn_TooMany : List Str} {xab_CallError xab_LimitError xab_InvalidName xab_InvalidKind xab_InvalidBook xab_TooMany : Bool} {xcol_CallError xcol_LimitError xcol_InvalidName xcol_InvalidKind xcol_InvalidBook xcol_TooMany : Option Bool} (X : K.In h) (G : h.Ns mainGlobals mg)
    (cn : PySem.W.specialIn K (.builtin "object.__class__") "__get__" = some (some (.builtin "getset_descriptor.__get__")))
    (ctk : PySem.W.takesIn K (.builtin "object.__class__") = some true)
    (g_Kind : PySem.W.nsIn K mainGlobals "Kind" = some (some (.ref ad.c_Kind)))
    (pgKind : PySem.W.plainGet K ad.c_Kind Str.empty = true)
    (hdKind : PySem.W.hasDictIn K ad.c_Kind = true)
    (poKind : PySem.W.plainOver K ad.c_Kind = true)
    (saKind : PySem.W.findIn K (.ref ad.c_Kind) "__setattr__" = some (some (.builtin "object.__setattr__")))
    (caKind : PySem.W.findIn K (.ref ad.c_Kind) "__class__" = some (some (.builtin "object.__class__")))
    (cmKind : PySem.W.mroIn K ad.c_Kind (.type "object") = some true)
    (icKind : PySem.W.isClsIn K ad.c_Kind = true)
    (tyKind : PySem.W.typeIn K (.ref ad.c_Kind) = some (.type "type"))
    (mkKind : PySem.W.makesIn K ad.c_Kind = true)
    (kcKind : PySem.W.keepIn K (.ref ad.c_Kind) = true)
    (suKind_NoneType : PySem.W.subIn K (.type "NoneType") (.ref ad.c_Kind) = some false)
    (suKind_tuple : PySem.W.subIn K (.type "tuple") (.ref ad.c_Kind) = some false)
    (suKind_str : PySem.W.subIn K (.type "str") (.ref ad.c_Kind) = some false)
    (suKind_int : PySem.W.subIn K (.type "int") (.ref ad.c_Kind) = some false)
    (suKind_list : PySem.W.subIn K (.type "list") (.ref ad.c_Kind) = some false)
    (suKind_bool : PySem.W.subIn K (.type "bool") (.ref ad.c_Kind) = some false)
    (suKind_dict : PySem.W.subIn K (.type "dict") (.ref ad.c_Kind) = some false)
    (neKind : PySem.W.findIn K (.ref ad.c_Kind) "__ne__" = some (some (.builtin "object.__ne__")))
    (nKind_name : PySem.W.findIn K (.ref ad.c_Kind) "_name" = some none)
    (nKind_group : PySem.W.findIn K (.ref ad.c_Kind) "_group" = some none)
    (nKind_size : PySem.W.findIn K (.ref ad.c_Kind) "_size" = some none)
    (nKind_width : PySem.W.findIn K (.ref ad.c_Kind) "_width" = some none)
    (nKind_align : PySem.W.findIn K (.ref ad.c_Kind) "_align" = some none)
    (nKind_parts : PySem.W.findIn K (.ref ad.c_Kind) "_parts" = some none)
    (clKind : PySem.W.clsIn K ad.c_Kind = some cldKind)
    (mrKind : cldKind.mro = [.ref ad.c_Kind, .type "object"])
    (cadKind : PySem.W.findIn K (.ref ad.c_Kind) "__add__" = some none)
    (crdKind : PySem.W.findIn K (.ref ad.c_Kind) "__radd__" = some none)
    (oad : PySem.W.findIn K (.type "object") "__add__" = some none)
    (ord_ : PySem.W.findIn K (.type "object") "__radd__" = some none)
    (g_Book : PySem.W.nsIn K mainGlobals "Book" = some (some (.ref ad.c_Book)))
    (pgBook : PySem.W.plainGet K ad.c_Book Str.empty = true)
    (hdBook : PySem.W.hasDictIn K ad.c_Book = true)
    (poBook : PySem.W.plainOver K ad.c_Book = true)
    (saBook : PySem.W.findIn K (.ref ad.c_Book) "__setattr__" = some (some (.builtin "object.__setattr__")))
    (caBook : PySem.W.findIn K (.ref ad.c_Book) "__class__" = some (some (.builtin "object.__class__")))
    (cmBook : PySem.W.mroIn K ad.c_Book (.type "object") = some true)
    (icBook : PySem.W.isClsIn K ad.c_Book = true)
    (tyBook : PySem.W.typeIn K (.ref ad.c_Book) = some (.type "type"))
    (mkBook : PySem.W.makesIn K ad.c_Book = true)
    (kcBook : PySem.W.keepIn K (.ref ad.c_Book) = true)
    (suBook_NoneType : PySem.W.subIn K (.type "NoneType") (.ref ad.c_Book) = some false)
    (suBook_tuple : PySem.W.subIn K (.type "tuple") (.ref ad.c_Book) = some false)
    (suBook_str : PySem.W.subIn K (.type "str") (.ref ad.c_Book) = some false)
    (suBook_int : PySem.W.subIn K (.type "int") (.ref ad.c_Book) = some false)
    (suBook_list : PySem.W.subIn K (.type "list") (.ref ad.c_Book) = some false)
    (suBook_bool : PySem.W.subIn K (.type "bool") (.ref ad.c_Book) = some false)
    (suBook_dict : PySem.W.subIn K (.type "dict") (.ref ad.c_Book) = some false)
    (neBook : PySem.W.findIn K (.ref ad.c_Book) "__ne__" = some (some (.builtin "object.__ne__")))
    (nBook_kinds : PySem.W.findIn K (.ref ad.c_Book) "_kinds" = some none)
    (nBook_names : PySem.W.findIn K (.ref ad.c_Book) "_names" = some none)
    (nBook_parts : PySem.W.findIn K (.ref ad.c_Book) "_parts" = some none)
    (sfBook : PySem.W.selfFirst K ad.c_Book = true)
    (sta : PySem.W.findIn K (.type "str") "__add__" = some fo_str)
    (str_ : PySem.W.findIn K (.type "str") "__radd__" = some ro_str)
    (nrBook : PySem.W.findIn K (.ref ad.c_Book) "__radd__" = some none)
    (ta_NoneType : PySem.W.findIn K (.type "NoneType") "__add__" = some go_NoneType)
    (tr_NoneType : PySem.W.findIn K (.type "NoneType") "__radd__" = some gr_NoneType)
    (ta_tuple : PySem.W.findIn K (.type "tuple") "__add__" = some go_tuple)
    (tr_tuple : PySem.W.findIn K (.type "tuple") "__radd__" = some gr_tuple)
    (ta_str : PySem.W.findIn K (.type "str") "__add__" = some go_str)
    (tr_str : PySem.W.findIn K (.type "str") "__radd__" = some gr_str)
    (ta_int : PySem.W.findIn K (.type "int") "__add__" = some go_int)
    (tr_int : PySem.W.findIn K (.type "int") "__radd__" = some gr_int)
    (ta_list : PySem.W.findIn K (.type "list") "__add__" = some go_list)
    (tr_list : PySem.W.findIn K (.type "list") "__radd__" = some gr_list)
    (ta_bool : PySem.W.findIn K (.type "bool") "__add__" = some go_bool)
    (tr_bool : PySem.W.findIn K (.type "bool") "__radd__" = some gr_bool)
    (ta_dict : PySem.W.findIn K (.type "dict") "__add__" = some go_dict)
    (tr_dict : PySem.W.findIn K (.type "dict") "__radd__" = some gr_dict)
    (ga_LONGEST_NAME : PySem.W.nsIn K mainGlobals "LONGEST_NAME" = some (some u_LONGEST_NAME))
    (v_LONGEST_NAME : RelV (.int 8) u_LONGEST_NAME)
    (ga_NAME_LETTERS : PySem.W.nsIn K mainGlobals "NAME_LETTERS" = some (some u_NAME_LETTERS))
    (v_NAME_LETTERS : RelV (.str "abcdefghijklmnopqrstuvwxyz") u_NAME_LETTERS)
    (ga_GROUPS : PySem.W.nsIn K mainGlobals "GROUPS" = some (some (.ref ad.a_GROUPS)))
    (o_GROUPS : K.lookup ad.a_GROUPS = some ⟨.type "tuple", none, .seq itGROUPS ntGROUPS, slGROUPS⟩)
    (v_GROUPS : Vals [.str "whole", .str "float"] itGROUPS.toList)
    (ga_ALIGNMENTS : PySem.W.nsIn K mainGlobals "ALIGNMENTS" = some (some (.ref ad.a_ALIGNMENTS)))
    (o_ALIGNMENTS : K.lookup ad.a_ALIGNMENTS = some ⟨.type "tuple", none, .seq itALIGNMENTS ntALIGNMENTS, slALIGNMENTS⟩)
    (v_ALIGNMENTS : Vals [.int 1, .int 2, .int 4, .int 8, .int 16] itALIGNMENTS.toList)
    (ga_SIZES : PySem.W.nsIn K mainGlobals "SIZES" = some (some (.ref ad.a_SIZES)))
    (o_SIZES : K.lookup ad.a_SIZES = some ⟨.type "tuple", none, .seq itSIZES ntSIZES, slSIZES⟩)
    (v_SIZES : Vals [.int 1, .int 2, .int 4, .int 8, .int 16] itSIZES.toList)
    (ga_DOUBLE_SIZE : PySem.W.nsIn K mainGlobals "DOUBLE_SIZE" = some (some u_DOUBLE_SIZE))
    (v_DOUBLE_SIZE : RelV (.int 16) u_DOUBLE_SIZE)
    (ga_LEAST_WIDTH : PySem.W.nsIn K mainGlobals "LEAST_WIDTH" = some (some u_LEAST_WIDTH))
    (v_LEAST_WIDTH : RelV (.int 2) u_LEAST_WIDTH)
    (ga_LEAST_DOUBLE_WIDTH : PySem.W.nsIn K mainGlobals "LEAST_DOUBLE_WIDTH" = some (some u_LEAST_DOUBLE_WIDTH))
    (v_LEAST_DOUBLE_WIDTH : RelV (.int 65) u_LEAST_DOUBLE_WIDTH)
    (ga_MOST_KINDS : PySem.W.nsIn K mainGlobals "MOST_KINDS" = some (some u_MOST_KINDS))
    (v_MOST_KINDS : RelV (.int 5) u_MOST_KINDS)
    (b_ArithmeticError : PySem.W.nsIn K mainGlobals "ArithmeticError" = some none)
    (b_LookupError : PySem.W.nsIn K mainGlobals "LookupError" = some none)
    (b_ValueError : PySem.W.nsIn K mainGlobals "ValueError" = some none)
    (b_abs : PySem.W.nsIn K mainGlobals "abs" = some none)
    (b_all : PySem.W.nsIn K mainGlobals "all" = some none)
    (b_bool : PySem.W.nsIn K mainGlobals "bool" = some none)
    (b_divmod : PySem.W.nsIn K mainGlobals "divmod" = some none)
    (b_enumerate : PySem.W.nsIn K mainGlobals "enumerate" = some none)
    (b_int : PySem.W.nsIn K mainGlobals "int" = some none)
    (b_isinstance : PySem.W.nsIn K mainGlobals "isinstance" = some none)
    (b_len : PySem.W.nsIn K mainGlobals "len" = some none)
    (b_list : PySem.W.nsIn K mainGlobals "list" = some none)
    (b_max : PySem.W.nsIn K mainGlobals "max" = some none)
    (b_min : PySem.W.nsIn K mainGlobals "min" = some none)
    (b_property : PySem.W.nsIn K mainGlobals "property" = some none)
    (b_range : PySem.W.nsIn K mainGlobals "range" = some none)
    (b_repr : PySem.W.nsIn K mainGlobals "repr" = some none)
    (b_str : PySem.W.nsIn K mainGlobals "str" = some none)
    (b_tuple : PySem.W.nsIn K mainGlobals "tuple" = some none)
    (g_CallError : PySem.W.nsIn K mainGlobals "CallError" = some (some (.ref ad.c_CallError)))
    (xl_CallError : K.lookup ad.c_CallError = some (excClassObj xnm_CallError xq_CallError ad.c_CallError xN_CallError xbs_CallError xbm_CallError true xsn_CallError xsub_CallError xab_CallError xcol_CallError xdd_CallError xk0_CallError xk1_CallError xk2_CallError xk3_CallError xk5_CallError "ValueError.__new__"))
    (xt_CallError : PySem.W.excTail [.type "ValueError", .type "Exception", .type "BaseException", .type "object"] xbm_CallError = true)
    (xsa_CallError : PySem.W.findIn K (.ref ad.c_CallError) "__setattr__" = some (some (.builtin "object.__setattr__")))
    (xex_CallError : PySem.W.subIn K (.ref ad.c_CallError) (.type "BaseException") = some true)
    (xty_CallError : PySem.W.typeIn K (.ref ad.c_CallError) = some (.type "type"))
    (xkc_CallError : PySem.W.keepIn K (.ref ad.c_CallError) = true)
    (xga_CallError : PySem.W.findIn K (.ref ad.c_CallError) "__getattribute__" = some (some (.builtin "BaseException.__getattribute__")))
    (xgg_CallError : PySem.W.findIn K (.ref ad.c_CallError) "__getattr__" = some none)
    (xhd_CallError : PySem.W.hasDictIn K ad.c_CallError = true)
    (xic_CallError : PySem.W.isClsIn K ad.c_CallError = true)
    (xm_CallError_CallError : PySem.W.subIn K (.ref ad.c_CallError) (.ref ad.c_CallError) = some true)
    (xm_CallError_LimitError : PySem.W.subIn K (.ref ad.c_CallError) (.ref ad.c_LimitError) = some false)
    (xm_CallError_InvalidName : PySem.W.subIn K (.ref ad.c_CallError) (.ref ad.c_InvalidName) = some false)
    (xm_CallError_InvalidKind : PySem.W.subIn K (.ref ad.c_CallError) (.ref ad.c_InvalidKind) = some false)
    (xm_CallError_InvalidBook : PySem.W.subIn K (.ref ad.c_CallError) (.ref ad.c_InvalidBook) = some false)
    (xm_CallError_TooMany : PySem.W.subIn K (.ref ad.c_CallError) (.ref ad.c_TooMany) = some false)
    (xv_CallError : PySem.W.subIn K (.ref ad.c_CallError) (.type "ValueError") = some true)
    (g_LimitError : PySem.W.nsIn K mainGlobals "LimitError" = some (some (.ref ad.c_LimitError)))
    (xl_LimitError : K.lookup ad.c_LimitError = some (excClassObj xnm_LimitError xq_LimitError ad.c_LimitError xN_LimitError xbs_LimitError xbm_LimitError true xsn_LimitError xsub_LimitError xab_LimitError xcol_LimitError xdd_LimitError xk0_LimitError xk1_LimitError xk2_LimitError xk3_LimitError xk5_LimitError "ArithmeticError.__new__"))
    (xt_LimitError : PySem.W.excTail [.type "ArithmeticError", .type "Exception", .type "BaseException", .type "object"] xbm_LimitError = true)
    (xsa_LimitError : PySem.W.findIn K (.ref ad.c_LimitError) "__setattr__" = some (some (.builtin "object.__setattr__")))
    (xex_LimitError : PySem.W.subIn K (.ref ad.c_LimitError) (.type "BaseException") = some true)
    (xty_LimitError : PySem.W.typeIn K (.ref ad.c_LimitError) = some (.type "type"))
    (xkc_LimitError : PySem.W.keepIn K (.ref ad.c_LimitError) = true)
    (xga_LimitError : PySem.W.findIn K (.ref ad.c_LimitError) "__getattribute__" = some (some (.builtin "BaseException.__getattribute__")))
    (xgg_LimitError : PySem.W.findIn K (.ref ad.c_LimitError) "__getattr__" = some none)
    (xhd_LimitError : PySem.W.hasDictIn K ad.c_LimitError = true)
    (xic_LimitError : PySem.W.isClsIn K ad.c_LimitError = true)
    (xm_LimitError_CallError : PySem.W.subIn K (.ref ad.c_LimitError) (.ref ad.c_CallError) = some false)
    (xm_LimitError_LimitError : PySem.W.subIn K (.ref ad.c_LimitError) (.ref ad.c_LimitError) = some true)
    (xm_LimitError_InvalidName : PySem.W.subIn K (.ref ad.c_LimitError) (.ref ad.c_InvalidName) = some false)
    (xm_LimitError_InvalidKind : PySem.W.subIn K (.ref ad.c_LimitError) (.ref ad.c_InvalidKind) = some false)
    (xm_LimitError_InvalidBook : PySem.W.subIn K (.ref ad.c_LimitError) (.ref ad.c_InvalidBook) = some false)
    (xm_LimitError_TooMany : PySem.W.subIn K (.ref ad.c_LimitError) (.ref ad.c_TooMany) = some false)
    (xv_LimitError : PySem.W.subIn K (.ref ad.c_LimitError) (.type "ArithmeticError") = some true)
    (g_InvalidName : PySem.W.nsIn K mainGlobals "InvalidName" = some (some (.ref ad.c_InvalidName)))
    (xl_InvalidName : K.lookup ad.c_InvalidName = some (excClassObj xnm_InvalidName xq_InvalidName ad.c_InvalidName xN_InvalidName xbs_InvalidName xbm_InvalidName true xsn_InvalidName xsub_InvalidName xab_InvalidName xcol_InvalidName xdd_InvalidName xk0_InvalidName xk1_InvalidName xk2_InvalidName xk3_InvalidName xk5_InvalidName "ValueError.__new__"))
    (xt_InvalidName : PySem.W.excTail [.type "ValueError", .type "Exception", .type "BaseException", .type "object"] xbm_InvalidName = true)
    (xsa_InvalidName : PySem.W.findIn K (.ref ad.c_InvalidName) "__setattr__" = some (some (.builtin "object.__setattr__")))
    (xex_InvalidName : PySem.W.subIn K (.ref ad.c_InvalidName) (.type "BaseException") = some true)
    (xty_InvalidName : PySem.W.typeIn K (.ref ad.c_InvalidName) = some (.type "type"))
    (xkc_InvalidName : PySem.W.keepIn K (.ref ad.c_InvalidName) = true)
    (xga_InvalidName : PySem.W.findIn K (.ref ad.c_InvalidName) "__getattribute__" = some (some (.builtin "BaseException.__getattribute__")))
    (xgg_InvalidName : PySem.W.findIn K (.ref ad.c_InvalidName) "__getattr__" = some none)
    (xhd_InvalidName : PySem.W.hasDictIn K ad.c_InvalidName = true)
    (xic_InvalidName : PySem.W.isClsIn K ad.c_InvalidName = true)
    (xn_InvalidName_value : PySem.W.findIn K (.ref ad.c_InvalidName) "value" = some none)
    (xm_InvalidName_CallError : PySem.W.subIn K (.ref ad.c_InvalidName) (.ref ad.c_CallError) = some true)
    (xm_InvalidName_LimitError : PySem.W.subIn K (.ref ad.c_InvalidName) (.ref ad.c_LimitError) = some false)
    (xm_InvalidName_InvalidName : PySem.W.subIn K (.ref ad.c_InvalidName) (.ref ad.c_InvalidName) = some true)
    (xm_InvalidName_InvalidKind : PySem.W.subIn K (.ref ad.c_InvalidName) (.ref ad.c_InvalidKind) = some false)
    (xm_InvalidName_InvalidBook : PySem.W.subIn K (.ref ad.c_InvalidName) (.ref ad.c_InvalidBook) = some false)
    (xm_InvalidName_TooMany : PySem.W.subIn K (.ref ad.c_InvalidName) (.ref ad.c_TooMany) = some false)
    (xe_InvalidName_CallError : (Value.ref ad.c_InvalidName == Value.ref ad.c_CallError) = false)
    (xv_InvalidName : PySem.W.subIn K (.ref ad.c_InvalidName) (.type "ValueError") = some true)
    (g_InvalidKind : PySem.W.nsIn K mainGlobals "InvalidKind" = some (some (.ref ad.c_InvalidKind)))
    (xl_InvalidKind : K.lookup ad.c_InvalidKind = some (excClassObj xnm_InvalidKind xq_InvalidKind ad.c_InvalidKind xN_InvalidKind xbs_InvalidKind xbm_InvalidKind true xsn_InvalidKind xsub_InvalidKind xab_InvalidKind xcol_InvalidKind xdd_InvalidKind xk0_InvalidKind xk1_InvalidKind xk2_InvalidKind xk3_InvalidKind xk5_InvalidKind "ValueError.__new__"))
    (xt_InvalidKind : PySem.W.excTail [.type "ValueError", .type "Exception", .type "BaseException", .type "object"] xbm_InvalidKind = true)
    (xsa_InvalidKind : PySem.W.findIn K (.ref ad.c_InvalidKind) "__setattr__" = some (some (.builtin "object.__setattr__")))
    (xex_InvalidKind : PySem.W.subIn K (.ref ad.c_InvalidKind) (.type "BaseException") = some true)
    (xty_InvalidKind : PySem.W.typeIn K (.ref ad.c_InvalidKind) = some (.type "type"))
    (xkc_InvalidKind : PySem.W.keepIn K (.ref ad.c_InvalidKind) = true)
    (xga_InvalidKind : PySem.W.findIn K (.ref ad.c_InvalidKind) "__getattribute__" = some (some (.builtin "BaseException.__getattribute__")))
    (xgg_InvalidKind : PySem.W.findIn K (.ref ad.c_InvalidKind) "__getattr__" = some none)
    (xhd_InvalidKind : PySem.W.hasDictIn K ad.c_InvalidKind = true)
    (xic_InvalidKind : PySem.W.isClsIn K ad.c_InvalidKind = true)
    (xn_InvalidKind_value : PySem.W.findIn K (.ref ad.c_InvalidKind) "value" = some none)
    (xm_InvalidKind_CallError : PySem.W.subIn K (.ref ad.c_InvalidKind) (.ref ad.c_CallError) = some true)
    (xm_InvalidKind_LimitError : PySem.W.subIn K (.ref ad.c_InvalidKind) (.ref ad.c_LimitError) = some false)
    (xm_InvalidKind_InvalidName : PySem.W.subIn K (.ref ad.c_InvalidKind) (.ref ad.c_InvalidName) = some false)
    (xm_InvalidKind_InvalidKind : PySem.W.subIn K (.ref ad.c_InvalidKind) (.ref ad.c_InvalidKind) = some true)
    (xm_InvalidKind_InvalidBook : PySem.W.subIn K (.ref ad.c_InvalidKind) (.ref ad.c_InvalidBook) = some false)
    (xm_InvalidKind_TooMany : PySem.W.subIn K (.ref ad.c_InvalidKind) (.ref ad.c_TooMany) = some false)
    (xe_InvalidKind_CallError : (Value.ref ad.c_InvalidKind == Value.ref ad.c_CallError) = false)
    (xv_InvalidKind : PySem.W.subIn K (.ref ad.c_InvalidKind) (.type "ValueError") = some true)
    (g_InvalidBook : PySem.W.nsIn K mainGlobals "InvalidBook" = some (some (.ref ad.c_InvalidBook)))
    (xl_InvalidBook : K.lookup ad.c_InvalidBook = some (excClassObj xnm_InvalidBook xq_InvalidBook ad.c_InvalidBook xN_InvalidBook xbs_InvalidBook xbm_InvalidBook true xsn_InvalidBook xsub_InvalidBook xab_InvalidBook xcol_InvalidBook xdd_InvalidBook xk0_InvalidBook xk1_InvalidBook xk2_InvalidBook xk3_InvalidBook xk5_InvalidBook "ValueError.__new__"))
    (xt_InvalidBook : PySem.W.excTail [.type "ValueError", .type "Exception", .type "BaseException", .type "object"] xbm_InvalidBook = true)
    (xsa_InvalidBook : PySem.W.findIn K (.ref ad.c_InvalidBook) "__setattr__" = some (some (.builtin "object.__setattr__")))
    (xex_InvalidBook : PySem.W.subIn K (.ref ad.c_InvalidBook) (.type "BaseException") = some true)
    (xty_InvalidBook : PySem.W.typeIn K (.ref ad.c_InvalidBook) = some (.type "type"))
    (xkc_InvalidBook : PySem.W.keepIn K (.ref ad.c_InvalidBook) = true)
    (xga_InvalidBook : PySem.W.findIn K (.ref ad.c_InvalidBook) "__getattribute__" = some (some (.builtin "BaseException.__getattribute__")))
    (xgg_InvalidBook : PySem.W.findIn K (.ref ad.c_InvalidBook) "__getattr__" = some none)
    (xhd_InvalidBook : PySem.W.hasDictIn K ad.c_InvalidBook = true)
    (xic_InvalidBook : PySem.W.isClsIn K ad.c_InvalidBook = true)
    (xn_InvalidBook_value : PySem.W.findIn K (.ref ad.c_InvalidBook) "value" = some none)
    (xm_InvalidBook_CallError : PySem.W.subIn K (.ref ad.c_InvalidBook) (.ref ad.c_CallError) = some true)
    (xm_InvalidBook_LimitError : PySem.W.subIn K (.ref ad.c_InvalidBook) (.ref ad.c_LimitError) = some false)
    (xm_InvalidBook_InvalidName : PySem.W.subIn K (.ref ad.c_InvalidBook) (.ref ad.c_InvalidName) = some false)
    (xm_InvalidBook_InvalidKind : PySem.W.subIn K (.ref ad.c_InvalidBook) (.ref ad.c_InvalidKind) = some false)
    (xm_InvalidBook_InvalidBook : PySem.W.subIn K (.ref ad.c_InvalidBook) (.ref ad.c_InvalidBook) = some true)
    (xm_InvalidBook_TooMany : PySem.W.subIn K (.ref ad.c_InvalidBook) (.ref ad.c_TooMany) = some false)
    (xe_InvalidBook_CallError : (Value.ref ad.c_InvalidBook == Value.ref ad.c_CallError) = false)
    (xv_InvalidBook : PySem.W.subIn K (.ref ad.c_InvalidBook) (.type "ValueError") = some true)
    (g_TooMany : PySem.W.nsIn K mainGlobals "TooMany" = some (some (.ref ad.c_TooMany)))
    (xl_TooMany : K.lookup ad.c_TooMany = some (excClassObj xnm_TooMany xq_TooMany ad.c_TooMany xN_TooMany xbs_TooMany xbm_TooMany true xsn_TooMany xsub_TooMany xab_TooMany xcol_TooMany xdd_TooMany xk0_TooMany xk1_TooMany xk2_TooMany xk3_TooMany xk5_TooMany "ArithmeticError.__new__"))
    (xt_TooMany : PySem.W.excTail [.type "ArithmeticError", .type "Exception", .type "BaseException", .type "object"] xbm_TooMany = true)
    (xsa_TooMany : PySem.W.findIn K (.ref ad.c_TooMany) "__setattr__" = some (some (.builtin "object.__setattr__")))
    (xex_TooMany : PySem.W.subIn K (.ref ad.c_TooMany) (.type "BaseException") = some true)
    (xty_TooMany : PySem.W.typeIn K (.ref ad.c_TooMany) = some (.type "type"))
    (xkc_TooMany : PySem.W.keepIn K (.ref ad.c_TooMany) = true)
    (xga_TooMany : PySem.W.findIn K (.ref ad.c_TooMany) "__getattribute__" = some (some (.builtin "BaseException.__getattribute__")))
    (xgg_TooMany : PySem.W.findIn K (.ref ad.c_TooMany) "__getattr__" = some none)
    (xhd_TooMany : PySem.W.hasDictIn K ad.c_TooMany = true)
    (xic_TooMany : PySem.W.isClsIn K ad.c_TooMany = true)
    (xn_TooMany_what : PySem.W.findIn K (.ref ad.c_TooMany) "what" = some none)
    (xn_TooMany_limit : PySem.W.findIn K (.ref ad.c_TooMany) "limit" = some none)
    (xm_TooMany_CallError : PySem.W.subIn K (.ref ad.c_TooMany) (.ref ad.c_CallError) = some false)
    (xm_TooMany_LimitError : PySem.W.subIn K (.ref ad.c_TooMany) (.ref ad.c_LimitError) = some true)
    (xm_TooMany_InvalidName : PySem.W.subIn K (.ref ad.c_TooMany) (.ref ad.c_InvalidName) = some false)
    (xm_TooMany_InvalidKind : PySem.W.subIn K (.ref ad.c_TooMany) (.ref ad.c_InvalidKind) = some false)
    (xm_TooMany_InvalidBook : PySem.W.subIn K (.ref ad.c_TooMany) (.ref ad.c_InvalidBook) = some false)
    (xm_TooMany_TooMany : PySem.W.subIn K (.ref ad.c_TooMany) (.ref ad.c_TooMany) = some true)
    (xe_TooMany_LimitError : (Value.ref ad.c_TooMany == Value.ref ad.c_LimitError) = false)
    (xv_TooMany : PySem.W.subIn K (.ref ad.c_TooMany) (.type "ArithmeticError") = some true)
    (a_is_integer : PySem.W.nsIn K mainGlobals "is_integer" = some (some (.ref f_is_integer)))
    (l_is_integer : K.lookup f_is_integer = some ⟨oc_is_integer, od_is_integer, .func (PySem.W.fnOf "is_integer" "is_integer" (defArgs st_is_integer) (defBody st_is_integer) (defScope st_is_integer) .none kV_is_integer dc_is_integer pm_is_integer an_is_integer cd_is_integer ct_is_integer), sl_is_integer⟩)
    (c_is_integer : PySem.W.codeIn K cd_is_integer "is_integer" = true)
    (k_is_integer : PySem.W.keepIn K (.ref f_is_integer) = true)
    (a_is_between : PySem.W.nsIn K mainGlobals "is_between" = some (some (.ref f_is_between)))
    (l_is_between : K.lookup f_is_between = some ⟨oc_is_between, od_is_between, .func (PySem.W.fnOf "is_between" "is_between" (defArgs st_is_between) (defBody st_is_between) (defScope st_is_between) .none kV_is_between dc_is_between pm_is_between an_is_between cd_is_between ct_is_between), sl_is_between⟩)
    (c_is_between : PySem.W.codeIn K cd_is_between "is_between" = true)
    (k_is_between : PySem.W.keepIn K (.ref f_is_between) = true)
    (a_is_one_of : PySem.W.nsIn K mainGlobals "is_one_of" = some (some (.ref f_is_one_of)))
    (l_is_one_of : K.lookup f_is_one_of = some ⟨oc_is_one_of, od_is_one_of, .func (PySem.W.fnOf "is_one_of" "is_one_of" (defArgs st_is_one_of) (defBody st_is_one_of) (defScope st_is_one_of) .none kV_is_one_of dc_is_one_of pm_is_one_of an_is_one_of cd_is_one_of ct_is_one_of), sl_is_one_of⟩)
    (c_is_one_of : PySem.W.codeIn K cd_is_one_of "is_one_of" = true)
    (k_is_one_of : PySem.W.keepIn K (.ref f_is_one_of) = true)
    (a_is_word_of : PySem.W.nsIn K mainGlobals "is_word_of" = some (some (.ref f_is_word_of)))
    (l_is_word_of : K.lookup f_is_word_of = some ⟨oc_is_word_of, od_is_word_of, .func (PySem.W.fnOf "is_word_of" "is_word_of" (defArgs st_is_word_of) (defBody st_is_word_of) (defScope st_is_word_of) .none kV_is_word_of dc_is_word_of pm_is_word_of an_is_word_of cd_is_word_of ct_is_word_of), sl_is_word_of⟩)
    (c_is_word_of : PySem.W.codeIn K cd_is_word_of "is_word_of" = true)
    (k_is_word_of : PySem.W.keepIn K (.ref f_is_word_of) = true)
    (a_is_name : PySem.W.nsIn K mainGlobals "is_name" = some (some (.ref f_is_name)))
    (l_is_name : K.lookup f_is_name = some ⟨oc_is_name, od_is_name, .func (PySem.W.fnOf "is_name" "is_name" (defArgs st_is_name) (defBody st_is_name) (defScope st_is_name) .none kV_is_name dc_is_name pm_is_name an_is_name cd_is_name ct_is_name), sl_is_name⟩)
    (c_is_name : PySem.W.codeIn K cd_is_name "is_name" = true)
    (k_is_name : PySem.W.keepIn K (.ref f_is_name) = true)
    (a_Kind_init : PySem.W.findIn K (.ref ad.c_Kind) "__init__" = some (some (.ref f_Kind_init)))
    (i_Kind_init : PySem.W.isFn K (.ref f_Kind_init) = true)
    (l_Kind_init : K.lookup f_Kind_init = some ⟨oc_Kind_init, od_Kind_init, .func (PySem.W.fnOf "__init__" "Kind.__init__" (defArgs st_Kind_init) (defBody st_Kind_init) (defScope st_Kind_init) (.ref T0_Kind) (.ref D0_Kind) dc_Kind_init pm_Kind_init an_Kind_init cd_Kind_init ct_Kind_init), sl_Kind_init⟩)
    (c_Kind_init : PySem.W.codeIn K cd_Kind_init "Kind.__init__" = true)
    (k_Kind_init : PySem.W.keepIn K (.ref f_Kind_init) = true)
    (tO_Kind : K.lookup T0_Kind = some ⟨ocT_Kind, odT_Kind, .seq itT_Kind nT_Kind, slT_Kind⟩)
    (vT_Kind : Vals [.str "whole"] itT_Kind.toList)
    (kq_Kind_size : PySem.W.nsIn K D0_Kind "size" = some (some uk_Kind_size))
    (kr_Kind_size : RelV (.int 8) uk_Kind_size)
    (kq_Kind_width : PySem.W.nsIn K D0_Kind "width" = some (some uk_Kind_width))
    (kr_Kind_width : RelV (.non) uk_Kind_width)
    (kq_Kind_align : PySem.W.nsIn K D0_Kind "align" = some (some uk_Kind_align))
    (kr_Kind_align : RelV (.non) uk_Kind_align)
    (a_Kind_name : PySem.W.findIn K (.ref ad.c_Kind) "name" = some (some (.ref p_Kind_name)))
    (g_Kind_name : PySem.W.specialIn K (.ref p_Kind_name) "__get__" = some (some (.builtin "property.__get__")))
    (t_Kind_name : PySem.W.takesIn K (.ref p_Kind_name) = some true)
    (r_Kind_name : PySem.W.recIn K p_Kind_name "property" = some (.ref f_Kind_name :: re_Kind_name))
    (l_Kind_name : K.lookup f_Kind_name = some ⟨oc_Kind_name, od_Kind_name, .func (PySem.W.fnOf "name" "Kind.name" (defArgs st_Kind_name) (defBody st_Kind_name) (defScope st_Kind_name) .none kV_Kind_name dc_Kind_name pm_Kind_name an_Kind_name cd_Kind_name ct_Kind_name), sl_Kind_name⟩)
    (c_Kind_name : PySem.W.codeIn K cd_Kind_name "Kind.name" = true)
    (k_Kind_name : PySem.W.keepIn K (.ref f_Kind_name) = true)
    (a_Kind_parts : PySem.W.findIn K (.ref ad.c_Kind) "parts" = some (some (.ref f_Kind_parts)))
    (i_Kind_parts : PySem.W.isFn K (.ref f_Kind_parts) = true)
    (l_Kind_parts : K.lookup f_Kind_parts = some ⟨oc_Kind_parts, od_Kind_parts, .func (PySem.W.fnOf "parts" "Kind.parts" (defArgs st_Kind_parts) (defBody st_Kind_parts) (defScope st_Kind_parts) .none kV_Kind_parts dc_Kind_parts pm_Kind_parts an_Kind_parts cd_Kind_parts ct_Kind_parts), sl_Kind_parts⟩)
    (c_Kind_parts : PySem.W.codeIn K cd_Kind_parts "Kind.parts" = true)
    (k_Kind_parts : PySem.W.keepIn K (.ref f_Kind_parts) = true)
    (a_InvalidName_init : PySem.W.findIn K (.ref ad.c_InvalidName) "__init__" = some (some (.ref f_InvalidName_init)))
    (i_InvalidName_init : PySem.W.isFn K (.ref f_InvalidName_init) = true)
    (t_InvalidName_init : PySem.W.typeIn K (.ref f_InvalidName_init) = some (.type "function"))
    (l_InvalidName_init : K.lookup f_InvalidName_init = some ⟨oc_InvalidName_init, od_InvalidName_init, .func (PySem.W.fnOf "__init__" "InvalidName.__init__" (defArgs st_InvalidName_init) (defBody st_InvalidName_init) (defScope st_InvalidName_init) .none kV_InvalidName_init dc_InvalidName_init pm_InvalidName_init an_InvalidName_init cd_InvalidName_init ct_InvalidName_init), sl_InvalidName_init⟩)
    (c_InvalidName_init : PySem.W.codeIn K cd_InvalidName_init "InvalidName.__init__" = true)
    (k_InvalidName_init : PySem.W.keepIn K (.ref f_InvalidName_init) = true)
    (a_InvalidKind_init : PySem.W.findIn K (.ref ad.c_InvalidKind) "__init__" = some (some (.ref f_InvalidKind_init)))
    (i_InvalidKind_init : PySem.W.isFn K (.ref f_InvalidKind_init) = true)
    (t_InvalidKind_init : PySem.W.typeIn K (.ref f_InvalidKind_init) = some (.type "function"))
    (l_InvalidKind_init : K.lookup f_InvalidKind_init = some ⟨oc_InvalidKind_init, od_InvalidKind_init, .func (PySem.W.fnOf "__init__" "InvalidKind.__init__" (defArgs st_InvalidKind_init) (defBody st_InvalidKind_init) (defScope st_InvalidKind_init) .none kV_InvalidKind_init dc_InvalidKind_init pm_InvalidKind_init an_InvalidKind_init cd_InvalidKind_init ct_InvalidKind_init), sl_InvalidKind_init⟩)
    (c_InvalidKind_init : PySem.W.codeIn K cd_InvalidKind_init "InvalidKind.__init__" = true)
    (k_InvalidKind_init : PySem.W.keepIn K (.ref f_InvalidKind_init) = true)
    (a_InvalidBook_init : PySem.W.findIn K (.ref ad.c_InvalidBook) "__init__" = some (some (.ref f_InvalidBook_init)))
    (i_InvalidBook_init : PySem.W.isFn K (.ref f_InvalidBook_init) = true)
    (t_InvalidBook_init : PySem.W.typeIn K (.ref f_InvalidBook_init) = some (.type "function"))
    (l_InvalidBook_init : K.lookup f_InvalidBook_init = some ⟨oc_InvalidBook_init, od_InvalidBook_init, .func (PySem.W.fnOf "__init__" "InvalidBook.__init__" (defArgs st_InvalidBook_init) (defBody st_InvalidBook_init) (defScope st_InvalidBook_init) .none kV_InvalidBook_init dc_InvalidBook_init pm_InvalidBook_init an_InvalidBook_init cd_InvalidBook_init ct_InvalidBook_init), sl_InvalidBook_init⟩)
    (c_InvalidBook_init : PySem.W.codeIn K cd_InvalidBook_init "InvalidBook.__init__" = true)
    (k_InvalidBook_init : PySem.W.keepIn K (.ref f_InvalidBook_init) = true)
    (a_TooMany_init : PySem.W.findIn K (.ref ad.c_TooMany) "__init__" = some (some (.ref f_TooMany_init)))
    (i_TooMany_init : PySem.W.isFn K (.ref f_TooMany_init) = true)
    (t_TooMany_init : PySem.W.typeIn K (.ref f_TooMany_init) = some (.type "function"))
    (l_TooMany_init : K.lookup f_TooMany_init = some ⟨oc_TooMany_init, od_TooMany_init, .func (PySem.W.fnOf "__init__" "TooMany.__init__" (defArgs st_TooMany_init) (defBody st_TooMany_init) (defScope st_TooMany_init) .none kV_TooMany_init dc_TooMany_init pm_TooMany_init an_TooMany_init cd_TooMany_init ct_TooMany_init), sl_TooMany_init⟩)
    (c_TooMany_init : PySem.W.codeIn K cd_TooMany_init "TooMany.__init__" = true)
    (k_TooMany_init : PySem.W.keepIn K (.ref f_TooMany_init) = true)
    (a_Book_init : PySem.W.findIn K (.ref ad.c_Book) "__init__" = some (some (.ref f_Book_init)))
    (i_Book_init : PySem.W.isFn K (.ref f_Book_init) = true)
    (l_Book_init : K.lookup f_Book_init = some ⟨oc_Book_init, od_Book_init, .func (PySem.W.fnOf "__init__" "Book.__init__" (defArgs st_Book_init) (defBody st_Book_init) (defScope st_Book_init) .none kV_Book_init dc_Book_init pm_Book_init an_Book_init cd_Book_init ct_Book_init), sl_Book_init⟩)
    (c_Book_init : PySem.W.codeIn K cd_Book_init "Book.__init__" = true)
    (k_Book_init : PySem.W.keepIn K (.ref f_Book_init) = true)
    (a_Book_names : PySem.W.findIn K (.ref ad.c_Book) "names" = some (some (.ref f_Book_names)))
    (i_Book_names : PySem.W.isFn K (.ref f_Book_names) = true)
    (l_Book_names : K.lookup f_Book_names = some ⟨oc_Book_names, od_Book_names, .func (PySem.W.fnOf "names" "Book.names" (defArgs st_Book_names) (defBody st_Book_names) (defScope st_Book_names) .none kV_Book_names dc_Book_names pm_Book_names an_Book_names cd_Book_names ct_Book_names), sl_Book_names⟩)
    (c_Book_names : PySem.W.codeIn K cd_Book_names "Book.names" = true)
    (k_Book_names : PySem.W.keepIn K (.ref f_Book_names) = true)
    (a_Book_kinds : PySem.W.findIn K (.ref ad.c_Book) "kinds" = some (some (.ref f_Book_kinds)))
    (i_Book_kinds : PySem.W.isFn K (.ref f_Book_kinds) = true)
    (l_Book_kinds : K.lookup f_Book_kinds = some ⟨oc_Book_kinds, od_Book_kinds, .func (PySem.W.fnOf "kinds" "Book.kinds" (defArgs st_Book_kinds) (defBody st_Book_kinds) (defScope st_Book_kinds) .none kV_Book_kinds dc_Book_kinds pm_Book_kinds an_Book_kinds cd_Book_kinds ct_Book_kinds), sl_Book_kinds⟩)
    (c_Book_kinds : PySem.W.codeIn K cd_Book_kinds "Book.kinds" = true)
    (k_Book_kinds : PySem.W.keepIn K (.ref f_Book_kinds) = true)
    (a_Book_add : PySem.W.findIn K (.ref ad.c_Book) "__add__" = some (some (.ref f_Book_add)))
    (i_Book_add : PySem.W.isFn K (.ref f_Book_add) = true)
    (l_Book_add : K.lookup f_Book_add = some ⟨oc_Book_add, od_Book_add, .func (PySem.W.fnOf "__add__" "Book.__add__" (defArgs st_Book_add) (defBody st_Book_add) (defScope st_Book_add) .none kV_Book_add dc_Book_add pm_Book_add an_Book_add cd_Book_add ct_Book_add), sl_Book_add⟩)
    (c_Book_add : PySem.W.codeIn K cd_Book_add "Book.__add__" = true)
    (k_Book_add : PySem.W.keepIn K (.ref f_Book_add) = true)
    (a_l_draw : PySem.W.nsIn K mainGlobals "_law_draw" = some (some (.ref f_l_draw)))
    (l_l_draw : K.lookup f_l_draw = some ⟨oc_l_draw, od_l_draw, .func (PySem.W.fnOf "_law_draw" "_law_draw" (defArgs st_l_draw) (defBody st_l_draw) (defScope st_l_draw) .none kV_l_draw dc_l_draw pm_l_draw an_l_draw cd_l_draw ct_l_draw), sl_l_draw⟩)
    (c_l_draw : PySem.W.codeIn K cd_l_draw "_law_draw" = true)
    (k_l_draw : PySem.W.keepIn K (.ref f_l_draw) = true)
    (a_l_pick : PySem.W.nsIn K mainGlobals "_law_pick" = some (some (.ref f_l_pick)))
    (l_l_pick : K.lookup f_l_pick = some ⟨oc_l_pick, od_l_pick, .func (PySem.W.fnOf "_law_pick" "_law_pick" (defArgs st_l_pick) (defBody st_l_pick) (defScope st_l_pick) .none kV_l_pick dc_l_pick pm_l_pick an_l_pick cd_l_pick ct_l_pick), sl_l_pick⟩)
    (c_l_pick : PySem.W.codeIn K cd_l_pick "_law_pick" = true)
    (k_l_pick : PySem.W.keepIn K (.ref f_l_pick) = true)
    (a_l_pot : PySem.W.nsIn K mainGlobals "_law_pot" = some (some (.ref f_l_pot)))
    (l_l_pot : K.lookup f_l_pot = some ⟨oc_l_pot, od_l_pot, .func (PySem.W.fnOf "_law_pot" "_law_pot" (defArgs st_l_pot) (defBody st_l_pot) (defScope st_l_pot) .none kV_l_pot dc_l_pot pm_l_pot an_l_pot cd_l_pot ct_l_pot), sl_l_pot⟩)
    (c_l_pot : PySem.W.codeIn K cd_l_pot "_law_pot" = true)
    (k_l_pot : PySem.W.keepIn K (.ref f_l_pot) = true)
    (a_l_row : PySem.W.nsIn K mainGlobals "_law_row" = some (some (.ref f_l_row)))
    (l_l_row : K.lookup f_l_row = some ⟨oc_l_row, od_l_row, .func (PySem.W.fnOf "_law_row" "_law_row" (defArgs st_l_row) (defBody st_l_row) (defScope st_l_row) .none kV_l_row dc_l_row pm_l_row an_l_row cd_l_row ct_l_row), sl_l_row⟩)
    (c_l_row : PySem.W.codeIn K cd_l_row "_law_row" = true)
    (k_l_row : PySem.W.keepIn K (.ref f_l_row) = true)
    (a_l_kind : PySem.W.nsIn K mainGlobals "_law_kind" = some (some (.ref f_l_kind)))
    (l_l_kind : K.lookup f_l_kind = some ⟨oc_l_kind, od_l_kind, .func (PySem.W.fnOf "_law_kind" "_law_kind" (defArgs st_l_kind) (defBody st_l_kind) (defScope st_l_kind) .none kV_l_kind dc_l_kind pm_l_kind an_l_kind cd_l_kind ct_l_kind), sl_l_kind⟩)
    (c_l_kind : PySem.W.codeIn K cd_l_kind "_law_kind" = true)
    (k_l_kind : PySem.W.keepIn K (.ref f_l_kind) = true)
    (a_l_named : PySem.W.nsIn K mainGlobals "_law_named" = some (some (.ref f_l_named)))
    (l_l_named : K.lookup f_l_named = some ⟨oc_l_named, od_l_named, .func (PySem.W.fnOf "_law_named" "_law_named" (defArgs st_l_named) (defBody st_l_named) (defScope st_l_named) .none kV_l_named dc_l_named pm_l_named an_l_named cd_l_named ct_l_named), sl_l_named⟩)
    (c_l_named : PySem.W.codeIn K cd_l_named "_law_named" = true)
    (k_l_named : PySem.W.keepIn K (.ref f_l_named) = true)
    (a_l_told : PySem.W.nsIn K mainGlobals "_law_told" = some (some (.ref f_l_told)))
    (l_l_told : K.lookup f_l_told = some ⟨oc_l_told, od_l_told, .func (PySem.W.fnOf "_law_told" "_law_told" (defArgs st_l_told) (defBody st_l_told) (defScope st_l_told) .none kV_l_told dc_l_told pm_l_told an_l_told cd_l_told ct_l_told), sl_l_told⟩)
    (c_l_told : PySem.W.codeIn K cd_l_told "_law_told" = true)
    (k_l_told : PySem.W.keepIn K (.ref f_l_told) = true)
    (a_l_thing : PySem.W.nsIn K mainGlobals "_law_thing" = some (some (.ref f_l_thing)))
    (l_l_thing : K.lookup f_l_thing = some ⟨oc_l_thing, od_l_thing, .func (PySem.W.fnOf "_law_thing" "_law_thing" (defArgs st_l_thing) (defBody st_l_thing) (defScope st_l_thing) .none kV_l_thing dc_l_thing pm_l_thing an_l_thing cd_l_thing ct_l_thing), sl_l_thing⟩)
    (c_l_thing : PySem.W.codeIn K cd_l_thing "_law_thing" = true)
    (k_l_thing : PySem.W.keepIn K (.ref f_l_thing) = true)
    (a_l_due : PySem.W.nsIn K mainGlobals "_law_due" = some (some (.ref f_l_due)))
    (l_l_due : K.lookup f_l_due = some ⟨oc_l_due, od_l_due, .func (PySem.W.fnOf "_law_due" "_law_due" (defArgs st_l_due) (defBody st_l_due) (defScope st_l_due) .none kV_l_due dc_l_due pm_l_due an_l_due cd_l_due ct_l_due), sl_l_due⟩)
    (c_l_due : PySem.W.codeIn K cd_l_due "_law_due" = true)
    (k_l_due : PySem.W.keepIn K (.ref f_l_due) = true)
    (a_l_at_once : PySem.W.nsIn K mainGlobals "_law_at_once" = some (some (.ref f_l_at_once)))
    (l_l_at_once : K.lookup f_l_at_once = some ⟨oc_l_at_once, od_l_at_once, .func (PySem.W.fnOf "_law_at_once" "_law_at_once" (defArgs st_l_at_once) (defBody st_l_at_once) (defScope st_l_at_once) .none kV_l_at_once dc_l_at_once pm_l_at_once an_l_at_once (.ref cM1) ct_l_at_once), sl_l_at_once⟩)
    (c_l_at_once : PySem.W.codeIn K (.ref cM1) "_law_at_once" = true)
    (k_l_at_once : PySem.W.keepIn K (.ref f_l_at_once) = true)
    (a_l_right : PySem.W.nsIn K mainGlobals "_law_right" = some (some (.ref f_l_right)))
    (l_l_right : K.lookup f_l_right = some ⟨oc_l_right, od_l_right, .func (PySem.W.fnOf "_law_right" "_law_right" (defArgs st_l_right) (defBody st_l_right) (defScope st_l_right) .none kV_l_right dc_l_right pm_l_right an_l_right (.ref cM2) ct_l_right), sl_l_right⟩)
    (c_l_right : PySem.W.codeIn K (.ref cM2) "_law_right" = true)
    (k_l_right : PySem.W.keepIn K (.ref f_l_right) = true)
    (l_law : K.lookup f_law = some ⟨oc_law, od_law, .func (PySem.W.fnOf "law" "law" (defArgs st_law) (defBody st_law) (defScope st_law) .none kV_law dc_law pm_law an_law cd_law ct_law), sl_law⟩)
    (c_law : PySem.W.codeIn K cd_law "law" = true)
    (k_law : PySem.W.keepIn K (.ref f_law) = true)
    (NE : P1 ≠ P2) :
    ∃ fd : FuncData, (∀ (s : Shared) (v : Value), BindsTo s fd ⟨[v], []⟩ [("_law_script", v)]) ∧ ∀ base : Heap, K.In base → base.Ns mainGlobals mg → LamX.TabB base mg cM1 P1 → LamX.TabB base mg cM2 P2 → FnG l.prog w K mg base 10 f_law fd ["_law_script"] (spLaw K P1 P2) := by
  refine ⟨PySem.W.fnOf "law" "law" (defArgs st_law) (defBody st_law) (defScope st_law) .none kV_law dc_law pm_law an_law cd_law ct_law, fun s v => .of_eq rfl, fun base _ _ TB_P1 TB_P2 => ?_⟩
  have cl_Kind : Cls K ad.c_Kind := ⟨pgKind, hdKind, poKind, saKind⟩
  have cl_Book : Cls K ad.c_Book := ⟨pgBook, hdBook, poBook, saBook⟩
  have B : Bi mg := ⟨PySem.W.mg_none_of X G b_ArithmeticError, PySem.W.mg_none_of X G b_LookupError, PySem.W.mg_none_of X G b_ValueError, PySem.W.mg_none_of X G b_abs, PySem.W.mg_none_of X G b_all, PySem.W.mg_none_of X G b_bool, PySem.W.mg_none_of X G b_divmod, PySem.W.mg_none_of X G b_enumerate, PySem.W.mg_none_of X G b_int, PySem.W.mg_none_of X G b_isinstance, PySem.W.mg_none_of X G b_len, PySem.W.mg_none_of X G b_list, PySem.W.mg_none_of X G b_max, PySem.W.mg_none_of X G b_min, PySem.W.mg_none_of X G b_property, PySem.W.mg_none_of X G b_range, PySem.W.mg_none_of X G b_repr, PySem.W.mg_none_of X G b_str, PySem.W.mg_none_of X G b_tuple⟩
  have szGROUPS : itGROUPS.toList.length ≤ sizeLine := by have := v_GROUPS.length; rw [← this]; exact line_ge (by show 2 ≤ 16000000; decide)
  have szALIGNMENTS : itALIGNMENTS.toList.length ≤ sizeLine := by have := v_ALIGNMENTS.length; rw [← this]; exact line_ge (by show 5 ≤ 16000000; decide)
  have szSIZES : itSIZES.toList.length ≤ sizeLine := by have := v_SIZES.length; rw [← this]; exact line_ge (by show 5 ≤ 16000000; decide)
  have X_CallError : ExB K ad.c_CallError "ValueError" "ValueError.__new__" "ValueError.__init__" [.type "ValueError", .type "Exception", .type "BaseException", .type "object"] := ⟨PySem.F.excBase_ValueError, PySem.F.store_ValueError, ⟨_, _, _, _, _, _, _, _, _, _, _, _, _, _, _, xl_CallError, xt_CallError⟩, xsa_CallError, xex_CallError, xty_CallError, xkc_CallError⟩
  have X_LimitError : ExB K ad.c_LimitError "ArithmeticError" "ArithmeticError.__new__" "ArithmeticError.__init__" [.type "ArithmeticError", .type "Exception", .type "BaseException", .type "object"] := ⟨PySem.F.excBase_ArithmeticError, PySem.F.store_ArithmeticError, ⟨_, _, _, _, _, _, _, _, _, _, _, _, _, _, _, xl_LimitError, xt_LimitError⟩, xsa_LimitError, xex_LimitError, xty_LimitError, xkc_LimitError⟩
  have X_InvalidName : ExB K ad.c_InvalidName "ValueError" "ValueError.__new__" "ValueError.__init__" [.type "ValueError", .type "Exception", .type "BaseException", .type "object"] := ⟨PySem.F.excBase_ValueError, PySem.F.store_ValueError, ⟨_, _, _, _, _, _, _, _, _, _, _, _, _, _, _, xl_InvalidName, xt_InvalidName⟩, xsa_InvalidName, xex_InvalidName, xty_InvalidName, xkc_InvalidName⟩
  have X_InvalidKind : ExB K ad.c_InvalidKind "ValueError" "ValueError.__new__" "ValueError.__init__" [.type "ValueError", .type "Exception", .type "BaseException", .type "object"] := ⟨PySem.F.excBase_ValueError, PySem.F.store_ValueError, ⟨_, _, _, _, _, _, _, _, _, _, _, _, _, _, _, xl_InvalidKind, xt_InvalidKind⟩, xsa_InvalidKind, xex_InvalidKind, xty_InvalidKind, xkc_InvalidKind⟩
  have X_InvalidBook : ExB K ad.c_InvalidBook "ValueError" "ValueError.__new__" "ValueError.__init__" [.type "ValueError", .type "Exception", .type "BaseException", .type "object"] := ⟨PySem.F.excBase_ValueError, PySem.F.store_ValueError, ⟨_, _, _, _, _, _, _, _, _, _, _, _, _, _, _, xl_InvalidBook, xt_InvalidBook⟩, xsa_InvalidBook, xex_InvalidBook, xty_InvalidBook, xkc_InvalidBook⟩
  have X_TooMany : ExB K ad.c_TooMany "ArithmeticError" "ArithmeticError.__new__" "ArithmeticError.__init__" [.type "ArithmeticError", .type "Exception", .type "BaseException", .type "object"] := ⟨PySem.F.excBase_ArithmeticError, PySem.F.store_ArithmeticError, ⟨_, _, _, _, _, _, _, _, _, _, _, _, _, _, _, xl_TooMany, xt_TooMany⟩, xsa_TooMany, xex_TooMany, xty_TooMany, xkc_TooMany⟩
  have T : Txt K mg ad := ⟨B, ⟨_, PySem.W.mg_of X G ga_LONGEST_NAME, v_LONGEST_NAME⟩, ⟨_, PySem.W.mg_of X G ga_NAME_LETTERS, v_NAME_LETTERS⟩, PySem.W.mg_of X G ga_GROUPS, fun H => .inr ⟨_, _, _, o_GROUPS, rfl, rfl, by rw [← Array.length_toList]; exact szGROUPS, v_GROUPS⟩, PySem.W.mg_of X G ga_ALIGNMENTS, fun H => .inr ⟨_, _, _, o_ALIGNMENTS, rfl, rfl, by rw [← Array.length_toList]; exact szALIGNMENTS, v_ALIGNMENTS⟩, PySem.W.mg_of X G ga_SIZES, fun H => .inr ⟨_, _, _, o_SIZES, rfl, rfl, by rw [← Array.length_toList]; exact szSIZES, v_SIZES⟩, ⟨_, PySem.W.mg_of X G ga_DOUBLE_SIZE, v_DOUBLE_SIZE⟩, ⟨_, PySem.W.mg_of X G ga_LEAST_WIDTH, v_LEAST_WIDTH⟩, ⟨_, PySem.W.mg_of X G ga_LEAST_DOUBLE_WIDTH, v_LEAST_DOUBLE_WIDTH⟩, ⟨_, PySem.W.mg_of X G ga_MOST_KINDS, v_MOST_KINDS⟩, PySem.W.mg_of X G g_Kind, ⟨cl_Kind, caKind, cn, ctk, cmKind⟩, ⟨⟨_, clKind, mrKind⟩, by rw [du_add]; exact cadKind, by rw [dr_add]; exact crdKind, by rw [du_add]; exact oad, by rw [dr_add]; exact ord_⟩, neKind, nKind_name, nKind_group, nKind_size, nKind_width, nKind_align, nKind_parts, (fun T hT => by
      simp only [List.mem_cons, List.not_mem_nil, or_false] at hT
      rcases hT with rfl | rfl | rfl | rfl | rfl | rfl | rfl
      · exact kt_of icKind tyKind suKind_NoneType
      · exact kt_of icKind tyKind suKind_tuple
      · exact kt_of icKind tyKind suKind_str
      · exact kt_of icKind tyKind suKind_int
      · exact kt_of icKind tyKind suKind_list
      · exact kt_of icKind tyKind suKind_bool
      · exact kt_of icKind tyKind suKind_dict), PySem.W.mg_of X G g_Book, ⟨cl_Book, caBook, cn, ctk, cmBook⟩, sfBook, ⟨sfBook, ⟨_, by rw [dr_add]; exact nrBook, .inl rfl⟩, ⟨_, by rw [du_add]; exact sta⟩, ⟨_, by rw [dr_add]; exact str_⟩, suBook_str⟩, (fun T hT => by
      simp only [UL.T7, List.mem_cons, List.not_mem_nil, or_false] at hT
      rcases hT with rfl | rfl | rfl | rfl | rfl | rfl | rfl
      · exact ⟨sfBook, ⟨_, by rw [dr_add]; exact nrBook, .inl rfl⟩, ⟨_, by rw [du_add]; exact ta_NoneType⟩, ⟨_, by rw [dr_add]; exact tr_NoneType⟩, suBook_NoneType⟩
      · exact ⟨sfBook, ⟨_, by rw [dr_add]; exact nrBook, .inl rfl⟩, ⟨_, by rw [du_add]; exact ta_tuple⟩, ⟨_, by rw [dr_add]; exact tr_tuple⟩, suBook_tuple⟩
      · exact ⟨sfBook, ⟨_, by rw [dr_add]; exact nrBook, .inl rfl⟩, ⟨_, by rw [du_add]; exact ta_str⟩, ⟨_, by rw [dr_add]; exact tr_str⟩, suBook_str⟩
      · exact ⟨sfBook, ⟨_, by rw [dr_add]; exact nrBook, .inl rfl⟩, ⟨_, by rw [du_add]; exact ta_int⟩, ⟨_, by rw [dr_add]; exact tr_int⟩, suBook_int⟩
      · exact ⟨sfBook, ⟨_, by rw [dr_add]; exact nrBook, .inl rfl⟩, ⟨_, by rw [du_add]; exact ta_list⟩, ⟨_, by rw [dr_add]; exact tr_list⟩, suBook_list⟩
      · exact ⟨sfBook, ⟨_, by rw [dr_add]; exact nrBook, .inl rfl⟩, ⟨_, by rw [du_add]; exact ta_bool⟩, ⟨_, by rw [dr_add]; exact tr_bool⟩, suBook_bool⟩
      · exact ⟨sfBook, ⟨_, by rw [dr_add]; exact nrBook, .inl rfl⟩, ⟨_, by rw [du_add]; exact ta_dict⟩, ⟨_, by rw [dr_add]; exact tr_dict⟩, suBook_dict⟩), neBook, nBook_kinds, nBook_names, nBook_parts, (fun T hT => by
      simp only [List.mem_cons, List.not_mem_nil, or_false] at hT
      rcases hT with rfl | rfl | rfl | rfl | rfl | rfl | rfl
      · exact kt_of icBook tyBook suBook_NoneType
      · exact kt_of icBook tyBook suBook_tuple
      · exact kt_of icBook tyBook suBook_str
      · exact kt_of icBook tyBook suBook_int
      · exact kt_of icBook tyBook suBook_list
      · exact kt_of icBook tyBook suBook_bool
      · exact kt_of icBook tyBook suBook_dict), PySem.W.mg_of X G g_CallError, X_CallError, ⟨xga_CallError, xgg_CallError, xex_CallError, xhd_CallError⟩, xm_of xex_CallError xic_CallError xty_CallError xm_CallError_CallError, xm_of xex_LimitError xic_LimitError xty_LimitError xm_CallError_LimitError, xm_of xex_InvalidName xic_InvalidName xty_InvalidName xm_CallError_InvalidName, xm_of xex_InvalidKind xic_InvalidKind xty_InvalidKind xm_CallError_InvalidKind, xm_of xex_InvalidBook xic_InvalidBook xty_InvalidBook xm_CallError_InvalidBook, xm_of xex_TooMany xic_TooMany xty_TooMany xm_CallError_TooMany, kb_of (by decide +kernel) xv_CallError, PySem.W.mg_of X G g_LimitError, X_LimitError, ⟨xga_LimitError, xgg_LimitError, xex_LimitError, xhd_LimitError⟩, xm_of xex_CallError xic_CallError xty_CallError xm_LimitError_CallError, xm_of xex_LimitError xic_LimitError xty_LimitError xm_LimitError_LimitError, xm_of xex_InvalidName xic_InvalidName xty_InvalidName xm_LimitError_InvalidName, xm_of xex_InvalidKind xic_InvalidKind xty_InvalidKind xm_LimitError_InvalidKind, xm_of xex_InvalidBook xic_InvalidBook xty_InvalidBook xm_LimitError_InvalidBook, xm_of xex_TooMany xic_TooMany xty_TooMany xm_LimitError_TooMany, kb_of (by decide +kernel) xv_LimitError, PySem.W.mg_of X G g_InvalidName, X_InvalidName, ⟨xga_InvalidName, xgg_InvalidName, xex_InvalidName, xhd_InvalidName⟩, xn_InvalidName_value, xm_of xex_CallError xic_CallError xty_CallError xm_InvalidName_CallError, xm_of xex_LimitError xic_LimitError xty_LimitError xm_InvalidName_LimitError, xm_of xex_InvalidName xic_InvalidName xty_InvalidName xm_InvalidName_InvalidName, xm_of xex_InvalidKind xic_InvalidKind xty_InvalidKind xm_InvalidName_InvalidKind, xm_of xex_InvalidBook xic_InvalidBook xty_InvalidBook xm_InvalidName_InvalidBook, xm_of xex_TooMany xic_TooMany xty_TooMany xm_InvalidName_TooMany, ⟨ks_of xic_CallError xty_CallError xm_InvalidName_CallError, xe_InvalidName_CallError⟩, kb_of (by decide +kernel) xv_InvalidName, PySem.W.mg_of X G g_InvalidKind, X_InvalidKind, ⟨xga_InvalidKind, xgg_InvalidKind, xex_InvalidKind, xhd_InvalidKind⟩, xn_InvalidKind_value, xm_of xex_CallError xic_CallError xty_CallError xm_InvalidKind_CallError, xm_of xex_LimitError xic_LimitError xty_LimitError xm_InvalidKind_LimitError, xm_of xex_InvalidName xic_InvalidName xty_InvalidName xm_InvalidKind_InvalidName, xm_of xex_InvalidKind xic_InvalidKind xty_InvalidKind xm_InvalidKind_InvalidKind, xm_of xex_InvalidBook xic_InvalidBook xty_InvalidBook xm_InvalidKind_InvalidBook, xm_of xex_TooMany xic_TooMany xty_TooMany xm_InvalidKind_TooMany, ⟨ks_of xic_CallError xty_CallError xm_InvalidKind_CallError, xe_InvalidKind_CallError⟩, kb_of (by decide +kernel) xv_InvalidKind, PySem.W.mg_of X G g_InvalidBook, X_InvalidBook, ⟨xga_InvalidBook, xgg_InvalidBook, xex_InvalidBook, xhd_InvalidBook⟩, xn_InvalidBook_value, xm_of xex_CallError xic_CallError xty_CallError xm_InvalidBook_CallError, xm_of xex_LimitError xic_LimitError xty_LimitError xm_InvalidBook_LimitError, xm_of xex_InvalidName xic_InvalidName xty_InvalidName xm_InvalidBook_InvalidName, xm_of xex_InvalidKind xic_InvalidKind xty_InvalidKind xm_InvalidBook_InvalidKind, xm_of xex_InvalidBook xic_InvalidBook xty_InvalidBook xm_InvalidBook_InvalidBook, xm_of xex_TooMany xic_TooMany xty_TooMany xm_InvalidBook_TooMany, ⟨ks_of xic_CallError xty_CallError xm_InvalidBook_CallError, xe_InvalidBook_CallError⟩, kb_of (by decide +kernel) xv_InvalidBook, PySem.W.mg_of X G g_TooMany, X_TooMany, ⟨xga_TooMany, xgg_TooMany, xex_TooMany, xhd_TooMany⟩, xn_TooMany_what, xn_TooMany_limit, xm_of xex_CallError xic_CallError xty_CallError xm_TooMany_CallError, xm_of xex_LimitError xic_LimitError xty_LimitError xm_TooMany_LimitError, xm_of xex_InvalidName xic_InvalidName xty_InvalidName xm_TooMany_InvalidName, xm_of xex_InvalidKind xic_InvalidKind xty_InvalidKind xm_TooMany_InvalidKind, xm_of xex_InvalidBook xic_InvalidBook xty_InvalidBook xm_TooMany_InvalidBook, xm_of xex_TooMany xic_TooMany xty_TooMany xm_TooMany_TooMany, ⟨ks_of xic_LimitError xty_LimitError xm_TooMany_LimitError, xe_TooMany_LimitError⟩, kb_of (by decide +kernel) xv_TooMany⟩
  have nil_ : Vals ([] : List V) [] := .nil
  have F_is_integer := fun_mk (st := st_is_integer) l_is_integer c_is_integer k_is_integer
  have B_is_integer := F_is_integer.binds (ps := ["value"]) fun _ _ _ _ _ _ us hl => match us, hl with | [_], _ => rfl
  have h_c_is_integer : Cal l.prog w K mg base 1 "is_integer" spIsInt := ⟨_, _, _, ok_is_integer F_is_integer T , k_is_integer, B_is_integer, PySem.W.mg_of X G a_is_integer⟩
  have F_is_between := fun_mk (st := st_is_between) l_is_between c_is_between k_is_between
  have B_is_between := F_is_between.binds (ps := ["value", "least", "most"]) fun _ _ _ _ _ _ us hl => match us, hl with | [_, _, _], _ => rfl
  have h_c_is_between : Cal l.prog w K mg base 1 "is_between" spBetw := ⟨_, _, _, ok_is_between F_is_between T , k_is_between, B_is_between, PySem.W.mg_of X G a_is_between⟩
  have F_is_one_of := fun_mk (st := st_is_one_of) l_is_one_of c_is_one_of k_is_one_of
  have B_is_one_of := F_is_one_of.binds (ps := ["value", "numbers"]) fun _ _ _ _ _ _ us hl => match us, hl with | [_, _], _ => rfl
  have h_c_is_one_of : Cal l.prog w K mg base 2 "is_one_of" (spOneOf K) := ⟨_, _, _, ok_is_one_of F_is_one_of T h_c_is_integer, k_is_one_of, B_is_one_of, PySem.W.mg_of X G a_is_one_of⟩
  have F_is_word_of := fun_mk (st := st_is_word_of) l_is_word_of c_is_word_of k_is_word_of
  have B_is_word_of := F_is_word_of.binds (ps := ["value", "words"]) fun _ _ _ _ _ _ us hl => match us, hl with | [_, _], _ => rfl
  have h_c_is_word_of : Cal l.prog w K mg base 1 "is_word_of" (spWordOf K) := ⟨_, _, _, ok_is_word_of F_is_word_of T , k_is_word_of, B_is_word_of, PySem.W.mg_of X G a_is_word_of⟩
  have F_is_name := fun_mk (st := st_is_name) l_is_name c_is_name k_is_name
  have B_is_name := F_is_name.binds (ps := ["value"]) fun _ _ _ _ _ _ us hl => match us, hl with | [_], _ => rfl
  have h_c_is_name : Cal l.prog w K mg base 1 "is_name" spName := ⟨_, _, _, ok_is_name F_is_name T , k_is_name, B_is_name, PySem.W.mg_of X G a_is_name⟩
  have F_Kind_init : FunD K "__init__" "Kind.__init__" (defArgs st_Kind_init) (defBody st_Kind_init) (defScope st_Kind_init) [.str "whole"] [("size", .int 8), ("width", .non), ("align", .non)] f_Kind_init _ := ⟨⟨_, _, _, _, _, _, _, _, _, _, rfl, l_Kind_init, c_Kind_init, .inr ⟨by simp, T0_Kind, _, itT_Kind.toList, nT_Kind, rfl, tO_Kind, by simp, vT_Kind⟩, .inr ⟨D0_Kind, rfl, fun q hq => by
      simp only [List.mem_cons, List.not_mem_nil, or_false] at hq
      rcases hq with rfl | rfl | rfl
      · exact ⟨_, kq_Kind_size, kr_Kind_size⟩
      · exact ⟨_, kq_Kind_width, kr_Kind_width⟩
      · exact ⟨_, kq_Kind_align, kr_Kind_align⟩⟩⟩, k_Kind_init⟩
  have O_Kind_init := ok_Kind_init (P := l.prog) (w := w) (mg := mg) (base := base) F_Kind_init T h_c_is_name h_c_is_word_of h_c_is_one_of h_c_is_between
  have mk_Kind : Mk K ad.c_Kind f_Kind_init := ⟨mkKind, a_Kind_init, i_Kind_init, kcKind⟩
  obtain ⟨ki_h_m_Kind_2_size, kv_h_m_Kind_2_size, KB_h_m_Kind_2_size⟩ := F_Kind_init.kbinds (ps := ["self", "name", "group", "size", "width", "align"]) 3 ["size"] [("width", .non), ("align", .non)] (fun us ds mv ws => us ++ ws ++ mv) (by simp) (by simp) (by simp) (fun r1 r2 r3 r4 => (r1.append r4).append r3) (fun _ _ _ _ _ _ _ us its mv ws h1 h2 h3 h4 => match us, its, mv, ws, h1, h2, h3, h4 with | [a0, a1, a2], [b0], [c0, c1], [d0], _, _, _, _ => by (refine ⟨_, rfl, ?_⟩; refine ⟨_, _, _, _, _, _, rfl, rfl, ?_⟩; refine ⟨_, _, _, _, _, _, rfl, rfl, ?_⟩; rfl))
  have h_m_Kind_2_size : MakN l.prog w K mg base 3 "Kind" ad.c_Kind 2 ["size"] gKA (spKindI ad) := ⟨_, _, _, _, O_Kind_init, mk_Kind, PySem.W.mg_of X G g_Kind, KB_h_m_Kind_2_size⟩
  obtain ⟨ki_h_m_Kind_0_name_align_width_size, kv_h_m_Kind_0_name_align_width_size, KB_h_m_Kind_0_name_align_width_size⟩ := F_Kind_init.kbinds (ps := ["self", "name", "group", "size", "width", "align"]) 1 ["name", "align", "width", "size"] [] (fun us ds mv ws => gB us ds mv ws) (by simp) (by simp) (by simp) (fun r1 r2 r3 r4 => relB r1 r2 r3 r4) (fun _ _ _ _ _ _ _ us its mv ws h1 h2 h3 h4 => match us, its, mv, ws, h1, h2, h3, h4 with | [a0], [b0], [], [d0, d1, d2, d3], _, _, _, _ => by (refine ⟨_, rfl, ?_⟩; rfl))
  have h_m_Kind_0_name_align_width_size : MakK l.prog w K mg base 3 "Kind" ad.c_Kind ["name", "align", "width", "size"] gKB (spKindI ad) := ⟨_, _, _, _, O_Kind_init, mk_Kind, PySem.W.mg_of X G g_Kind, KB_h_m_Kind_0_name_align_width_size⟩
  obtain ⟨ki_h_m_Kind_2_size_width_align, kv_h_m_Kind_2_size_width_align, KB_h_m_Kind_2_size_width_align⟩ := F_Kind_init.kbinds (ps := ["self", "name", "group", "size", "width", "align"]) 3 ["size", "width", "align"] [] (fun us ds mv ws => us ++ ws) (by simp) (by simp) (by simp) (fun r1 r2 r3 r4 => r1.append r4) (fun _ _ _ _ _ _ _ us its mv ws h1 h2 h3 h4 => match us, its, mv, ws, h1, h2, h3, h4 with | [a0, a1, a2], [b0], [], [d0, d1, d2], _, _, _, _ => by (refine ⟨_, rfl, ?_⟩; rfl))
  have h_m_Kind_2_size_width_align : MakN l.prog w K mg base 3 "Kind" ad.c_Kind 2 ["size", "width", "align"] gKC (spKindI ad) := ⟨_, _, _, _, O_Kind_init, mk_Kind, PySem.W.mg_of X G g_Kind, KB_h_m_Kind_2_size_width_align⟩
  have F_Kind_name := fun_mk (st := st_Kind_name) l_Kind_name c_Kind_name k_Kind_name
  have B_Kind_name := F_Kind_name.binds (ps := ["self"]) fun _ _ _ _ _ _ us hl => match us, hl with | [_], _ => rfl
  have h_c_Kind_name : CalP l.prog w K mg base 1 ad.c_Kind "name" (spKGet ad fun k => .str k.n) := ⟨_, _, _, _, ok_Kind_name F_Kind_name T , cl_Kind, ⟨a_Kind_name, g_Kind_name, t_Kind_name, ⟨_, r_Kind_name⟩⟩, B_Kind_name⟩
  have F_Kind_parts := fun_mk (st := st_Kind_parts) l_Kind_parts c_Kind_parts k_Kind_parts
  have B_Kind_parts := F_Kind_parts.binds (ps := ["self"]) fun _ _ _ _ _ _ us hl => match us, hl with | [_], _ => rfl
  have h_c_Kind_parts : CalM l.prog w K mg base 1 ad.c_Kind "parts" (spKParts ad) := ⟨_, _, _, ok_Kind_parts F_Kind_parts T , cl_Kind, ⟨a_Kind_parts, i_Kind_parts, k_Kind_parts⟩, B_Kind_parts⟩
  have F_InvalidName_init := fun_mk (st := st_InvalidName_init) l_InvalidName_init c_InvalidName_init k_InvalidName_init
  have B_InvalidName_init := F_InvalidName_init.binds (ps := ["self", "value"]) fun _ _ _ _ _ _ us hl => match us, hl with | [_, _], _ => rfl
  have h_e_InvalidName : MakE l.prog w K mg base 1 "InvalidName" ad.c_InvalidName ["value"] := ⟨_, _, _, _, _, _, _, X_InvalidName, a_InvalidName_init, t_InvalidName_init, ok_InvalidName_init F_InvalidName_init  T, B_InvalidName_init, PySem.W.mg_of X G g_InvalidName⟩
  have F_InvalidKind_init := fun_mk (st := st_InvalidKind_init) l_InvalidKind_init c_InvalidKind_init k_InvalidKind_init
  have B_InvalidKind_init := F_InvalidKind_init.binds (ps := ["self", "value"]) fun _ _ _ _ _ _ us hl => match us, hl with | [_, _], _ => rfl
  have h_e_InvalidKind : MakE l.prog w K mg base 1 "InvalidKind" ad.c_InvalidKind ["value"] := ⟨_, _, _, _, _, _, _, X_InvalidKind, a_InvalidKind_init, t_InvalidKind_init, ok_InvalidKind_init F_InvalidKind_init  T, B_InvalidKind_init, PySem.W.mg_of X G g_InvalidKind⟩
  have F_InvalidBook_init := fun_mk (st := st_InvalidBook_init) l_InvalidBook_init c_InvalidBook_init k_InvalidBook_init
  have B_InvalidBook_init := F_InvalidBook_init.binds (ps := ["self", "value"]) fun _ _ _ _ _ _ us hl => match us, hl with | [_, _], _ => rfl
  have h_e_InvalidBook : MakE l.prog w K mg base 1 "InvalidBook" ad.c_InvalidBook ["value"] := ⟨_, _, _, _, _, _, _, X_InvalidBook, a_InvalidBook_init, t_InvalidBook_init, ok_InvalidBook_init F_InvalidBook_init  T, B_InvalidBook_init, PySem.W.mg_of X G g_InvalidBook⟩
  have F_TooMany_init := fun_mk (st := st_TooMany_init) l_TooMany_init c_TooMany_init k_TooMany_init
  have B_TooMany_init := F_TooMany_init.binds (ps := ["self", "what", "limit"]) fun _ _ _ _ _ _ us hl => match us, hl with | [_, _, _], _ => rfl
  have h_e_TooMany : MakE l.prog w K mg base 1 "TooMany" ad.c_TooMany ["what", "limit"] := ⟨_, _, _, _, _, _, _, X_TooMany, a_TooMany_init, t_TooMany_init, ok_TooMany_init F_TooMany_init  T, B_TooMany_init, PySem.W.mg_of X G g_TooMany⟩
  have mk_Book : Mk K ad.c_Book f_Book_init := ⟨mkBook, a_Book_init, i_Book_init, kcBook⟩
  have h_m_Book : MakRE l.prog w K mg base 4 "Book" ad.c_Book (spBookRX K ad) := ⟨_, fnR_mono (r_Book_init l_Book_init c_Book_init h_e_InvalidKind h_c_Kind_name h_e_InvalidName h_e_TooMany h_e_InvalidBook h_c_Kind_parts T) (by decide), mk_Book, PySem.W.mg_of X G g_Book⟩
  have F_Book_names := fun_mk (st := st_Book_names) l_Book_names c_Book_names k_Book_names
  have B_Book_names := F_Book_names.binds (ps := ["self"]) fun _ _ _ _ _ _ us hl => match us, hl with | [_], _ => rfl
  have h_c_Book_names : CalM l.prog w K mg base 1 ad.c_Book "names" (spBNames ad) := ⟨_, _, _, ok_Book_names F_Book_names T , cl_Book, ⟨a_Book_names, i_Book_names, k_Book_names⟩, B_Book_names⟩
  have F_Book_kinds := fun_mk (st := st_Book_kinds) l_Book_kinds c_Book_kinds k_Book_kinds
  have B_Book_kinds := F_Book_kinds.binds (ps := ["self"]) fun _ _ _ _ _ _ us hl => match us, hl with | [_], _ => rfl
  have h_c_Book_kinds : CalM l.prog w K mg base 1 ad.c_Book "kinds" (spBKinds ad) := ⟨_, _, _, ok_Book_kinds F_Book_kinds T , cl_Book, ⟨a_Book_kinds, i_Book_kinds, k_Book_kinds⟩, B_Book_kinds⟩
  have F_Book_add := fun_mk (st := st_Book_add) l_Book_add c_Book_add k_Book_add
  have B_Book_add := F_Book_add.binds (ps := ["self", "other"]) fun _ _ _ _ _ _ us hl => match us, hl with | [_, _], _ => rfl
  have h_c_Book_add : CalSE l.prog w K mg base 6 ad.c_Book "__add__" (spBAddX K ad) := ⟨_, ((ok_Book_add F_Book_add T h_m_Book).raw B_Book_add nil_).imp fun vs H Q E h => by rw [List.append_nil]; exact h, a_Book_add, i_Book_add⟩
  have F_l_draw := fun_mk (st := st_l_draw) l_l_draw c_l_draw k_l_draw
  have B_l_draw := F_l_draw.binds (ps := ["_law_pot_here", "_law_much"]) fun _ _ _ _ _ _ us hl => match us, hl with | [_, _], _ => rfl
  have h_c_l_draw : Cal l.prog w K mg base 1 "_law_draw" spDraw := ⟨_, _, _, ok_l_draw F_l_draw T , k_l_draw, B_l_draw, PySem.W.mg_of X G a_l_draw⟩
  have F_l_pick := fun_mk (st := st_l_pick) l_l_pick c_l_pick k_l_pick
  have B_l_pick := F_l_pick.binds (ps := ["_law_pot_here", "_law_some"]) fun _ _ _ _ _ _ us hl => match us, hl with | [_, _], _ => rfl
  have h_c_l_pick : Cal l.prog w K mg base 2 "_law_pick" (spPick1 K) := ⟨_, _, _, ok_l_pick F_l_pick T h_c_l_draw, k_l_pick, B_l_pick, PySem.W.mg_of X G a_l_pick⟩
  have F_l_pot := fun_mk (st := st_l_pot) l_l_pot c_l_pot k_l_pot
  have B_l_pot := F_l_pot.binds (ps := ["_law_script", "_law_k"]) fun _ _ _ _ _ _ us hl => match us, hl with | [_, _], _ => rfl
  have h_c_l_pot : Cal l.prog w K mg base 1 "_law_pot" (spPot K) := ⟨_, _, _, ok_l_pot F_l_pot T , k_l_pot, B_l_pot, PySem.W.mg_of X G a_l_pot⟩
  have F_l_row := fun_mk (st := st_l_row) l_l_row c_l_row k_l_row
  have B_l_row := F_l_row.binds (ps := ["_law_pot_here", "_law_label"]) fun _ _ _ _ _ _ us hl => match us, hl with | [_, _], _ => rfl
  have h_c_l_row : Cal l.prog w K mg base 3 "_law_row" spRow := ⟨_, _, _, ok_l_row F_l_row T h_c_l_pick h_c_l_draw, k_l_row, B_l_row, PySem.W.mg_of X G a_l_row⟩
  have F_l_kind := fun_mk (st := st_l_kind) l_l_kind c_l_kind k_l_kind
  have B_l_kind := F_l_kind.binds (ps := ["_law_pot_here", "_law_row_here"]) fun _ _ _ _ _ _ us hl => match us, hl with | [_, _], _ => rfl
  have h_c_l_kind : Cal l.prog w K mg base 5 "_law_kind" (spKindL ad) := ⟨_, _, _, ok_l_kind F_l_kind T h_c_l_draw h_m_Kind_2_size h_m_Kind_0_name_align_width_size h_m_Kind_2_size_width_align, k_l_kind, B_l_kind, PySem.W.mg_of X G a_l_kind⟩
  have F_l_named := fun_mk (st := st_l_named) l_l_named c_l_named k_l_named
  have B_l_named := F_l_named.binds (ps := ["_law_pot_here", "_law_much", "_law_taken"]) fun _ _ _ _ _ _ us hl => match us, hl with | [_, _, _], _ => rfl
  have h_c_l_named : Cal l.prog w K mg base 3 "_law_named" spNamed := ⟨_, _, _, ok_l_named F_l_named T h_c_l_pick h_c_l_draw, k_l_named, B_l_named, PySem.W.mg_of X G a_l_named⟩
  have F_l_told := fun_mk (st := st_l_told) l_l_told c_l_told k_l_told
  have B_l_told := F_l_told.binds (ps := ["_law_deed"]) fun _ _ _ _ _ _ us hl => match us, hl with | [_], _ => rfl
  have h_c_l_told : CalLG l.prog w K mg base 3 "_law_told" "_law_deed" (TT25 ad) := ⟨_, _, _, _, _, _, _, _, _, _, _, _, _, _, _, PySem.W.mg_of X G a_l_told, k_l_told, l_l_told, c_l_told, B_l_told, sc_l_told, rfl, .inl rfl, gv_l_told h_c_Book_kinds h_c_Kind_name T⟩
  have F_l_thing := fun_mk (st := st_l_thing) l_l_thing c_l_thing k_l_thing
  have B_l_thing := F_l_thing.binds (ps := ["_law_pot_here", "_law_labels"]) fun _ _ _ _ _ _ us hl => match us, hl with | [_, _], _ => rfl
  have h_c_l_thing : Cal l.prog w K mg base 6 "_law_thing" (spThing K ad) := ⟨_, _, _, ok_l_thing F_l_thing T h_c_l_draw h_c_l_pick h_c_l_kind h_c_l_row, k_l_thing, B_l_thing, PySem.W.mg_of X G a_l_thing⟩
  have F_l_due := fun_mk (st := st_l_due) l_l_due c_l_due k_l_due
  have B_l_due := F_l_due.binds (ps := ["_law_things"]) fun _ _ _ _ _ _ us hl => match us, hl with | [_], _ => rfl
  have h_c_l_due : CalG l.prog w K mg base 1 "_law_due" (spDueB K ad) := ⟨_, _, _, ok_l_due F_l_due T , k_l_due, B_l_due, PySem.W.mg_of X G a_l_due⟩
  have F_l_at_once : FunC K "_law_at_once" "_law_at_once" st_l_at_once f_l_at_once _ cM1 := ⟨⟨_, _, _, _, _, _, _, _, rfl, l_l_at_once, c_l_at_once⟩, k_l_at_once⟩
  have B_l_at_once := F_l_at_once.fun.binds (ps := ["_law_some"]) fun _ _ _ _ _ _ us hl => match us, hl with | [_], _ => rfl
  have h_c_l_at_once : CalG l.prog w K mg base 8 "_law_at_once" (spOnce K ad P1 P2) := ⟨_, _, _, ok_l_at_once F_l_at_once TB_P1 NE h_c_l_told h_m_Book T, k_l_at_once, B_l_at_once, PySem.W.mg_of X G a_l_at_once⟩
  have F_l_right : FunC K "_law_right" "_law_right" st_l_right f_l_right _ cM2 := ⟨⟨_, _, _, _, _, _, _, _, rfl, l_l_right, c_l_right⟩, k_l_right⟩
  have B_l_right := F_l_right.fun.binds (ps := ["_law_pot_here"]) fun _ _ _ _ _ _ us hl => match us, hl with | [_], _ => rfl
  have h_c_l_right : CalG l.prog w K mg base 9 "_law_right" (spRight P1 P2) := ⟨_, _, _, ok_l_right F_l_right TB_P2 NE h_c_l_named h_c_l_draw h_c_l_thing h_c_l_kind h_c_l_row h_c_l_at_once h_c_l_due h_m_Book h_c_Book_add h_c_Book_names h_c_l_told T, k_l_right, B_l_right, PySem.W.mg_of X G a_l_right⟩
  have F_law := fun_mk (st := st_law) l_law c_law k_law
  have B_law := F_law.binds (ps := ["_law_script"]) fun _ _ _ _ _ _ us hl => match us, hl with | [_], _ => rfl
  exact ok_law F_law T h_c_l_right h_c_l_pot
theorem all_mk {l : PySem.W.OpenLaw} {w : World} {K : PySem.W.Frag} {h : Heap} {mg : Str → Option Value} {P1 P2 : Addr} {c_CallError c_InvalidName c_InvalidKind c_InvalidBook zz_c_MissingError zz_c_UnknownKind c_LimitError c_TooMany c_Kind c_Book a_GROUPS a_ALIGNMENTS a_SIZES : Addr} {f_law fa : Addr} {xN_CallError xN_LimitError xN_InvalidName xN_InvalidKind xN_InvalidBook xN_TooMany f_is_integer f_is_between f_is_one_of f_is_word_of f_is_name f_Kind_init T0_Kind D0_Kind p_Kind_name f_Kind_name f_Kind_parts f_InvalidName_init f_InvalidKind_init f_InvalidBook_init f_TooMany_init f_Book_init f_Book_names f_Book_kinds f_Book_add f_l_draw f_l_pick f_l_pot f_l_row f_l_kind f_l_named f_l_told f_l_thing f_l_due cM1 f_l_at_once cM2 f_l_right : Addr} {xdd_CallError xdd_LimitError xdd_InvalidName xdd_InvalidKind xdd_InvalidBook xdd_TooMany od_is_integer an_is_integer od_is_between an_is_between od_is_one_of an_is_one_of od_is_word_of an_is_word_of od_is_name an_is_name od_Kind_init an_Kind_init odT_Kind od_Kind_name an_Kind_name od_Kind_parts an_Kind_parts od_InvalidName_init an_InvalidName_init od_InvalidKind_init an_InvalidKind_init od_InvalidBook_init an_InvalidBook_init od_TooMany_init an_TooMany_init od_Book_init an_Book_init od_Book_names an_Book_names od_Book_kinds an_Book_kinds od_Book_add an_Book_add od_l_draw an_l_draw od_l_pick an_l_pick od_l_pot an_l_pot od_l_row an_l_row od_l_kind an_l_kind od_l_named an_l_named od_l_told an_l_told od_l_thing an_l_thing od_l_due an_l_due od_l_at_once an_l_at_once od_l_right an_l_right od_law an_law : Option Addr} {slGROUPS slALIGNMENTS slSIZES sl_is_integer sl_is_between sl_is_one_of sl_is_word_of sl_is_name sl_Kind_init slT_Kind sl_Kind_name sl_Kind_parts sl_InvalidName_init sl_InvalidKind_init sl_InvalidBook_init sl_TooMany_init sl_Book_init sl_Book_names sl_Book_kinds sl_Book_add sl_l_draw sl_l_pick sl_l_pot sl_l_row sl_l_kind sl_l_named sl_l_told sl_l_thing sl_l_due sl_l_at_once sl_l_right sl_law : Array (Option Value)} {u_LONGEST_NAME u_NAME_LETTERS u_DOUBLE_SIZE u_LEAST_WIDTH u_LEAST_DOUBLE_WIDTH u_MOST_KINDS oc_is_integer dc_is_integer pm_is_integer cd_is_integer ct_is_integer kV_is_integer oc_is_between dc_is_between pm_is_between cd_is_between ct_is_between kV_is_between oc_is_one_of dc_is_one_of pm_is_one_of cd_is_one_of ct_is_one_of kV_is_one_of oc_is_word_of dc_is_word_of pm_is_word_of cd_is_word_of ct_is_word_of kV_is_word_of oc_is_name dc_is_name pm_is_name cd_is_name ct_is_name kV_is_name oc_Kind_init dc_Kind_init pm_Kind_init cd_Kind_init ct_Kind_init ocT_Kind uk_Kind_size uk_Kind_width uk_Kind_align oc_Kind_name dc_Kind_name pm_Kind_name cd_Kind_name ct_Kind_name kV_Kind_name oc_Kind_parts dc_Kind_parts pm_Kind_parts cd_Kind_parts ct_Kind_parts kV_Kind_parts oc_InvalidName_init dc_InvalidName_init pm_InvalidName_init cd_InvalidName_init ct_InvalidName_init kV_InvalidName_init oc_InvalidKind_init dc_InvalidKind_init pm_InvalidKind_init cd_InvalidKind_init ct_InvalidKind_init kV_InvalidKind_init oc_InvalidBook_init dc_InvalidBook_init pm_InvalidBook_init cd_InvalidBook_init ct_InvalidBook_init kV_InvalidBook_init oc_TooMany_init dc_TooMany_init pm_TooMany_init cd_TooMany_init ct_TooMany_init kV_TooMany_init oc_Book_init dc_Book_init pm_Book_init cd_Book_init ct_Book_init kV_Book_init oc_Book_names dc_Book_names pm_Book_names cd_Book_names ct_Book_names kV_Book_names oc_Book_kinds dc_Book_kinds pm_Book_kinds cd_Book_kinds ct_Book_kinds kV_Book_kinds oc_Book_add dc_Book_add pm_Book_add cd_Book_add ct_Book_add kV_Book_add oc_l_draw dc_l_draw pm_l_draw cd_l_draw ct_l_draw kV_l_draw oc_l_pick dc_l_pick pm_l_pick cd_l_pick ct_l_pick kV_l_pick oc_l_pot dc_l_pot pm_l_pot cd_l_pot ct_l_pot kV_l_pot oc_l_row dc_l_row pm_l_row cd_l_row ct_l_row kV_l_row oc_l_kind dc_l_kind pm_l_kind cd_l_kind ct_l_kind kV_l_kind oc_l_named dc_l_named pm_l_named cd_l_named ct_l_named kV_l_named oc_l_told dc_l_told pm_l_told cd_l_told ct_l_told kV_l_told oc_l_thing dc_l_thing pm_l_thing cd_l_thing ct_l_thing kV_l_thing oc_l_due dc_l_due pm_l_due cd_l_due ct_l_due kV_l_due oc_l_at_once dc_l_at_once pm_l_at_once ct_l_at_once kV_l_at_once oc_l_right dc_l_right pm_l_right ct_l_right kV_l_right oc_law dc_law pm_law cd_law ct_law kV_law : Value} {xbs_CallError xbm_CallError xsub_CallError xbs_LimitError xbm_LimitError xsub_LimitError xbs_InvalidName xbm_InvalidName xsub_InvalidName xbs_InvalidKind xbm_InvalidKind xsub_InvalidKind xbs_InvalidBook xbm_InvalidBook xsub_InvalidBook xbs_TooMany xbm_TooMany xsub_TooMany re_Kind_name : List Value} {itGROUPS itALIGNMENTS itSIZES itT_Kind : Array Value} {ntGROUPS ntALIGNMENTS ntSIZES nT_Kind : Nat} {cldKind : ClassData} {xk0_CallError xk1_CallError xk2_CallError xk3_CallError xk5_CallError xk0_LimitError xk1_LimitError xk2_LimitError xk3_LimitError xk5_LimitError xk0_InvalidName xk1_InvalidName xk2_InvalidName xk3_InvalidName xk5_InvalidName xk0_InvalidKind xk1_InvalidKind xk2_InvalidKind xk3_InvalidKind xk5_InvalidKind xk0_InvalidBook xk1_InvalidBook xk2_InvalidBook xk3_InvalidBook xk5_InvalidBook xk0_TooMany xk1_TooMany xk2_TooMany xk3_TooMany xk5_TooMany fo_str ro_str go_NoneType go_tuple go_str go_int go_list go_bool go_dict gr_NoneType gr_tuple gr_str gr_int gr_list gr_bool gr_dict : Option Value} {xnm_CallError xq_CallError xnm_LimitError xq_LimitError xnm_InvalidName xq_InvalidName xnm_InvalidKind xq_InvalidKind xnm_InvalidBook xq_InvalidBook xnm_TooMany xq_TooMany : Str} {xsn_CallError xsn_LimitError xsn_InvalidName xsn_InvalidKind xsn_InvalidBook xsn_TooMany : List Str} {xab_CallError xab_LimitError xab_InvalidName xab_InvalidKind xab_InvalidBook xab_TooMany : Bool} {xcol_CallError xcol_LimitError xcol_InvalidName xcol_InvalidKind xcol_InvalidBook xcol_TooMany : Option Bool} (X : K.In h) (G : h.Ns mainGlobals mg) (hfa : mg "law" = some (.ref fa)) (hP_P1 : h.get? P1 = some { cls := .none, data := .fields #[] }) (hP_P2 : h.get? P2 = some { cls := .none, data := .fields #[] })
    (cn : PySem.W.specialIn K (.builtin "object.__class__") "__get__" = some (some (.builtin "getset_descriptor.__get__")))
    (ctk : PySem.W.takesIn K (.builtin "object.__class__") = some true)
    (g_Kind : PySem.W.nsIn K mainGlobals "Kind" = some (some (.ref c_Kind)))
    (pgKind : PySem.W.plainGet K c_Kind Str.empty = true)
    (hdKind : PySem.W.hasDictIn K c_Kind = true)
    (poKind : PySem.W.plainOver K c_Kind = true)
    (saKind : PySem.W.findIn K (.ref c_Kind) "__setattr__" = some (some (.builtin "object.__setattr__")))
    (caKind : PySem.W.findIn K (.ref c_Kind) "__class__" = some (some (.builtin "object.__class__")))
    (cmKind : PySem.W.mroIn K c_Kind (.type "object") = some true)
    (icKind : PySem.W.isClsIn K c_Kind = true)
    (tyKind : PySem.W.typeIn K (.ref c_Kind) = some (.type "type"))
    (mkKind : PySem.W.makesIn K c_Kind = true)
    (kcKind : PySem.W.keepIn K (.ref c_Kind) = true)
    (suKind_NoneType : PySem.W.subIn K (.type "NoneType") (.ref c_Kind) = some false)
    (suKind_tuple : PySem.W.subIn K (.type "tuple") (.ref c_Kind) = some false)
    (suKind_str : PySem.W.subIn K (.type "str") (.ref c_Kind) = some false)
    (suKind_int : PySem.W.subIn K (.type "int") (.ref c_Kind) = some false)
    (suKind_list : PySem.W.subIn K (.type "list") (.ref c_Kind) = some false)
    (suKind_bool : PySem.W.subIn K (.type "bool") (.ref c_Kind) = some false)
    (suKind_dict : PySem.W.subIn K (.type "dict") (.ref c_Kind) = some false)
    (neKind : PySem.W.findIn K (.ref c_Kind) "__ne__" = some (some (.builtin "object.__ne__")))
    (nKind_name : PySem.W.findIn K (.ref c_Kind) "_name" = some none)
    (nKind_group : PySem.W.findIn K (.ref c_Kind) "_group" = some none)
    (nKind_size : PySem.W.findIn K (.ref c_Kind) "_size" = some none)
    (nKind_width : PySem.W.findIn K (.ref c_Kind) "_width" = some none)
    (nKind_align : PySem.W.findIn K (.ref c_Kind) "_align" = some none)
    (nKind_parts : PySem.W.findIn K (.ref c_Kind) "_parts" = some none)
    (clKind : PySem.W.clsIn K c_Kind = some cldKind)
    (mrKind : cldKind.mro = [.ref c_Kind, .type "object"])
    (cadKind : PySem.W.findIn K (.ref c_Kind) "__add__" = some none)
    (crdKind : PySem.W.findIn K (.ref c_Kind) "__radd__" = some none)
    (oad : PySem.W.findIn K (.type "object") "__add__" = some none)
    (ord_ : PySem.W.findIn K (.type "object") "__radd__" = some none)
    (g_Book : PySem.W.nsIn K mainGlobals "Book" = some (some (.ref c_Book)))
    (pgBook : PySem.W.plainGet K c_Book Str.empty = true)
    (hdBook : PySem.W.hasDictIn K c_Book = true)
    (poBook : PySem.W.plainOver K c_Book = true)
    (saBook : PySem.W.findIn K (.ref c_Book) "__setattr__" = some (some (.builtin "object.__setattr__")))
    (caBook : PySem.W.findIn K (.ref c_Book) "__class__" = some (some (.builtin "object.__class__")))
    (cmBook : PySem.W.mroIn K c_Book (.type "object") = some true)
    (icBook : PySem.W.isClsIn K c_Book = true)
    (tyBook : PySem.W.typeIn K (.ref c_Book) = some (.type "type"))
    (mkBook : PySem.W.makesIn K c_Book = true)
    (kcBook : PySem.W.keepIn K (.ref c_Book) = true)
    (suBook_NoneType : PySem.W.subIn K (.type "NoneType") (.ref c_Book) = some false)
    (suBook_tuple : PySem.W.subIn K (.type "tuple") (.ref c_Book) = some false)
    (suBook_str : PySem.W.subIn K (.type "str") (.ref c_Book) = some false)
    (suBook_int : PySem.W.subIn K (.type "int") (.ref c_Book) = some false)
    (suBook_list : PySem.W.subIn K (.type "list") (.ref c_Book) = some false)
    (suBook_bool : PySem.W.subIn K (.type "bool") (.ref c_Book) = some false)
    (suBook_dict : PySem.W.subIn K (.type "dict") (.ref c_Book) = some false)
    (neBook : PySem.W.findIn K (.ref c_Book) "__ne__" = some (some (.builtin "object.__ne__")))
    (nBook_kinds : PySem.W.findIn K (.ref c_Book) "_kinds" = some none)
    (nBook_names : PySem.W.findIn K (.ref c_Book) "_names" = some none)
    (nBook_parts : PySem.W.findIn K (.ref c_Book) "_parts" = some none)
    (sfBook : PySem.W.selfFirst K c_Book = true)
    (sta : PySem.W.findIn K (.type "str") "__add__" = some fo_str)
    (str_ : PySem.W.findIn K (.type "str") "__radd__" = some ro_str)
    (nrBook : PySem.W.findIn K (.ref c_Book) "__radd__" = some none)
    (ta_NoneType : PySem.W.findIn K (.type "NoneType") "__add__" = some go_NoneType)
    (tr_NoneType : PySem.W.findIn K (.type "NoneType") "__radd__" = some gr_NoneType)
    (ta_tuple : PySem.W.findIn K (.type "tuple") "__add__" = some go_tuple)
    (tr_tuple : PySem.W.findIn K (.type "tuple") "__radd__" = some gr_tuple)
    (ta_str : PySem.W.findIn K (.type "str") "__add__" = some go_str)
    (tr_str : PySem.W.findIn K (.type "str") "__radd__" = some gr_str)
    (ta_int : PySem.W.findIn K (.type "int") "__add__" = some go_int)
    (tr_int : PySem.W.findIn K (.type "int") "__radd__" = some gr_int)
    (ta_list : PySem.W.findIn K (.type "list") "__add__" = some go_list)
    (tr_list : PySem.W.findIn K (.type "list") "__radd__" = some gr_list)
    (ta_bool : PySem.W.findIn K (.type "bool") "__add__" = some go_bool)
    (tr_bool : PySem.W.findIn K (.type "bool") "__radd__" = some gr_bool)
    (ta_dict : PySem.W.findIn K (.type "dict") "__add__" = some go_dict)
    (tr_dict : PySem.W.findIn K (.type "dict") "__radd__" = some gr_dict)
    (ga_LONGEST_NAME : PySem.W.nsIn K mainGlobals "LONGEST_NAME" = some (some u_LONGEST_NAME))
    (v_LONGEST_NAME : RelV (.int 8) u_LONGEST_NAME)
    (ga_NAME_LETTERS : PySem.W.nsIn K mainGlobals "NAME_LETTERS" = some (some u_NAME_LETTERS))
    (v_NAME_LETTERS : RelV (.str "abcdefghijklmnopqrstuvwxyz") u_NAME_LETTERS)
    (ga_GROUPS : PySem.W.nsIn K mainGlobals "GROUPS" = some (some (.ref a_GROUPS)))
    (o_GROUPS : K.lookup a_GROUPS = some ⟨.type "tuple", none, .seq itGROUPS ntGROUPS, slGROUPS⟩)
    (v_GROUPS : Vals [.str "whole", .str "float"] itGROUPS.toList)
    (ga_ALIGNMENTS : PySem.W.nsIn K mainGlobals "ALIGNMENTS" = some (some (.ref a_ALIGNMENTS)))
    (o_ALIGNMENTS : K.lookup a_ALIGNMENTS = some ⟨.type "tuple", none, .seq itALIGNMENTS ntALIGNMENTS, slALIGNMENTS⟩)
    (v_ALIGNMENTS : Vals [.int 1, .int 2, .int 4, .int 8, .int 16] itALIGNMENTS.toList)
    (ga_SIZES : PySem.W.nsIn K mainGlobals "SIZES" = some (some (.ref a_SIZES)))
    (o_SIZES : K.lookup a_SIZES = some ⟨.type "tuple", none, .seq itSIZES ntSIZES, slSIZES⟩)
    (v_SIZES : Vals [.int 1, .int 2, .int 4, .int 8, .int 16] itSIZES.toList)
    (ga_DOUBLE_SIZE : PySem.W.nsIn K mainGlobals "DOUBLE_SIZE" = some (some u_DOUBLE_SIZE))
    (v_DOUBLE_SIZE : RelV (.int 16) u_DOUBLE_SIZE)
    (ga_LEAST_WIDTH : PySem.W.nsIn K mainGlobals "LEAST_WIDTH" = some (some u_LEAST_WIDTH))
    (v_LEAST_WIDTH : RelV (.int 2) u_LEAST_WIDTH)
    (ga_LEAST_DOUBLE_WIDTH : PySem.W.nsIn K mainGlobals "LEAST_DOUBLE_WIDTH" = some (some u_LEAST_DOUBLE_WIDTH))
    (v_LEAST_DOUBLE_WIDTH : RelV (.int 65) u_LEAST_DOUBLE_WIDTH)
    (ga_MOST_KINDS : PySem.W.nsIn K mainGlobals "MOST_KINDS" = some (some u_MOST_KINDS))
    (v_MOST_KINDS : RelV (.int 5) u_MOST_KINDS)
    (b_ArithmeticError : PySem.W.nsIn K mainGlobals "ArithmeticError" = some none)
    (b_LookupError : PySem.W.nsIn K mainGlobals "LookupError" = some none)
    (b_ValueError : PySem.W.nsIn K mainGlobals "ValueError" = some none)
    (b_abs : PySem.W.nsIn K mainGlobals "abs" = some none)
    (b_all : PySem.W.nsIn K mainGlobals "all" = some none)
    (b_bool : PySem.W.nsIn K mainGlobals "bool" = some none)
    (b_divmod : PySem.W.nsIn K mainGlobals "divmod" = some none)
    (b_enumerate : PySem.W.nsIn K mainGlobals "enumerate" = some none)
    (b_int : PySem.W.nsIn K mainGlobals "int" = some none)
    (b_isinstance : PySem.W.nsIn K mainGlobals "isinstance" = some none)
    (b_len : PySem.W.nsIn K mainGlobals "len" = some none)
    (b_list : PySem.W.nsIn K mainGlobals "list" = some none)
    (b_max : PySem.W.nsIn K mainGlobals "max" = some none)
    (b_min : PySem.W.nsIn K mainGlobals "min" = some none)
    (b_property : PySem.W.nsIn K mainGlobals "property" = some none)
    (b_range : PySem.W.nsIn K mainGlobals "range" = some none)
    (b_repr : PySem.W.nsIn K mainGlobals "repr" = some none)
    (b_str : PySem.W.nsIn K mainGlobals "str" = some none)
    (b_tuple : PySem.W.nsIn K mainGlobals "tuple" = some none)
    (g_CallError : PySem.W.nsIn K mainGlobals "CallError" = some (some (.ref c_CallError)))
    (xl_CallError : K.lookup c_CallError = some (excClassObj xnm_CallError xq_CallError c_CallError xN_CallError xbs_CallError xbm_CallError true xsn_CallError xsub_CallError xab_CallError xcol_CallError xdd_CallError xk0_CallError xk1_CallError xk2_CallError xk3_CallError xk5_CallError "ValueError.__new__"))
    (xt_CallError : PySem.W.excTail [.type "ValueError", .type "Exception", .type "BaseException", .type "object"] xbm_CallError = true)
    (xsa_CallError : PySem.W.findIn K (.ref c_CallError) "__setattr__" = some (some (.builtin "object.__setattr__")))
    (xex_CallError : PySem.W.subIn K (.ref c_CallError) (.type "BaseException") = some true)
    (xty_CallError : PySem.W.typeIn K (.ref c_CallError) = some (.type "type"))
    (xkc_CallError : PySem.W.keepIn K (.ref c_CallError) = true)
    (xga_CallError : PySem.W.findIn K (.ref c_CallError) "__getattribute__" = some (some (.builtin "BaseException.__getattribute__")))
    (xgg_CallError : PySem.W.findIn K (.ref c_CallError) "__getattr__" = some none)
    (xhd_CallError : PySem.W.hasDictIn K c_CallError = true)
    (xic_CallError : PySem.W.isClsIn K c_CallError = true)
    (xm_CallError_CallError : PySem.W.subIn K (.ref c_CallError) (.ref c_CallError) = some true)
    (xm_CallError_LimitError : PySem.W.subIn K (.ref c_CallError) (.ref c_LimitError) = some false)
    (xm_CallError_InvalidName : PySem.W.subIn K (.ref c_CallError) (.ref c_InvalidName) = some false)
    (xm_CallError_InvalidKind : PySem.W.subIn K (.ref c_CallError) (.ref c_InvalidKind) = some false)
    (xm_CallError_InvalidBook : PySem.W.subIn K (.ref c_CallError) (.ref c_InvalidBook) = some false)
    (xm_CallError_TooMany : PySem.W.subIn K (.ref c_CallError) (.ref c_TooMany) = some false)
    (xv_CallError : PySem.W.subIn K (.ref c_CallError) (.type "ValueError") = some true)
    (g_LimitError : PySem.W.nsIn K mainGlobals "LimitError" = some (some (.ref c_LimitError)))
    (xl_LimitError : K.lookup c_LimitError = some (excClassObj xnm_LimitError xq_LimitError c_LimitError xN_LimitError xbs_LimitError xbm_LimitError true xsn_LimitError xsub_LimitError xab_LimitError xcol_LimitError xdd_LimitError xk0_LimitError xk1_LimitError xk2_LimitError xk3_LimitError xk5_LimitError "ArithmeticError.__new__"))
    (xt_LimitError : PySem.W.excTail [.type "ArithmeticError", .type "Exception", .type "BaseException", .type "object"] xbm_LimitError = true)
    (xsa_LimitError : PySem.W.findIn K (.ref c_LimitError) "__setattr__" = some (some (.builtin "object.__setattr__")))
    (xex_LimitError : PySem.W.subIn K (.ref c_LimitError) (.type "BaseException") = some true)
    (xty_LimitError : PySem.W.typeIn K (.ref c_LimitError) = some (.type "type"))
    (xkc_LimitError : PySem.W.keepIn K (.ref c_LimitError) = true)
    (xga_LimitError : PySem.W.findIn K (.ref c_LimitError) "__getattribute__" = some (some (.builtin "BaseException.__getattribute__")))
    (xgg_LimitError : PySem.W.findIn K (.ref c_LimitError) "__getattr__" = some none)
    (xhd_LimitError : PySem.W.hasDictIn K c_LimitError = true)
    (xic_LimitError : PySem.W.isClsIn K c_LimitError = true)
    (xm_LimitError_CallError : PySem.W.subIn K (.ref c_LimitError) (.ref c_CallError) = some false)
    (xm_LimitError_LimitError : PySem.W.subIn K (.ref c_LimitError) (.ref c_LimitError) = some true)
    (xm_LimitError_InvalidName : PySem.W.subIn K (.ref c_LimitError) (.ref c_InvalidName) = some false)
    (xm_LimitError_InvalidKind : PySem.W.subIn K (.ref c_LimitError) (.ref c_InvalidKind) = some false)
    (xm_LimitError_InvalidBook : PySem.W.subIn K (.ref c_LimitError) (.ref c_InvalidBook) = some false)
    (xm_LimitError_TooMany : PySem.W.subIn K (.ref c_LimitError) (.ref c_TooMany) = some false)
    (xv_LimitError : PySem.W.subIn K (.ref c_LimitError) (.type "ArithmeticError") = some true)
    (g_InvalidName : PySem.W.nsIn K mainGlobals "InvalidName" = some (some (.ref c_InvalidName)))
    (xl_InvalidName : K.lookup c_InvalidName = some (excClassObj xnm_InvalidName xq_InvalidName c_InvalidName xN_InvalidName xbs_InvalidName xbm_InvalidName true xsn_InvalidName xsub_InvalidName xab_InvalidName xcol_InvalidName xdd_InvalidName xk0_InvalidName xk1_InvalidName xk2_InvalidName xk3_InvalidName xk5_InvalidName "ValueError.__new__"))
    (xt_InvalidName : PySem.W.excTail [.type "ValueError", .type "Exception", .type "BaseException", .type "object"] xbm_InvalidName = true)
    (xsa_InvalidName : PySem.W.findIn K (.ref c_InvalidName) "__setattr__" = some (some (.builtin "object.__setattr__")))
    (xex_InvalidName : PySem.W.subIn K (.ref c_InvalidName) (.type "BaseException") = some true)
    (xty_InvalidName : PySem.W.typeIn K (.ref c_InvalidName) = some (.type "type"))
    (xkc_InvalidName : PySem.W.keepIn K (.ref c_InvalidName) = true)
    (xga_InvalidName : PySem.W.findIn K (.ref c_InvalidName) "__getattribute__" = some (some (.builtin "BaseException.__getattribute__")))
    (xgg_InvalidName : PySem.W.findIn K (.ref c_InvalidName) "__getattr__" = some none)
    (xhd_InvalidName : PySem.W.hasDictIn K c_InvalidName = true)
    (xic_InvalidName : PySem.W.isClsIn K c_InvalidName = true)
    (xn_InvalidName_value : PySem.W.findIn K (.ref c_InvalidName) "value" = some none)
    (xm_InvalidName_CallError : PySem.W.subIn K (.ref c_InvalidName) (.ref c_CallError) = some true)
    (xm_InvalidName_LimitError : PySem.W.subIn K (.ref c_InvalidName) (.ref c_LimitError) = some false)
    (xm_InvalidName_InvalidName : PySem.W.subIn K (.ref c_InvalidName) (.ref c_InvalidName) = some true)
    (xm_InvalidName_InvalidKind : PySem.W.subIn K (.ref c_InvalidName) (.ref c_InvalidKind) = some false)
    (xm_InvalidName_InvalidBook : PySem.W.subIn K (.ref c_InvalidName) (.ref c_InvalidBook) = some false)
    (xm_InvalidName_TooMany : PySem.W.subIn K (.ref c_InvalidName) (.ref c_TooMany) = some false)
    (xe_InvalidName_CallError : (Value.ref c_InvalidName == Value.ref c_CallError) = false)
    (xv_InvalidName : PySem.W.subIn K (.ref c_InvalidName) (.type "ValueError") = some true)
    (g_InvalidKind : PySem.W.nsIn K mainGlobals "InvalidKind" = some (some (.ref c_InvalidKind)))
    (xl_InvalidKind : K.lookup c_InvalidKind = some (excClassObj xnm_InvalidKind xq_InvalidKind c_InvalidKind xN_InvalidKind xbs_InvalidKind xbm_InvalidKind true xsn_InvalidKind xsub_InvalidKind xab_InvalidKind xcol_InvalidKind xdd_InvalidKind xk0_InvalidKind xk1_InvalidKind xk2_InvalidKind xk3_InvalidKind xk5_InvalidKind "ValueError.__new__"))
    (xt_InvalidKind : PySem.W.excTail [.type "ValueError", .type "Exception", .type "BaseException", .type "object"] xbm_InvalidKind = true)
    (xsa_InvalidKind : PySem.W.findIn K (.ref c_InvalidKind) "__setattr__" = some (some (.builtin "object.__setattr__")))
    (xex_InvalidKind : PySem.W.subIn K (.ref c_InvalidKind) (.type "BaseException") = some true)
    (xty_InvalidKind : PySem.W.typeIn K (.ref c_InvalidKind) = some (.type "type"))
    (xkc_InvalidKind : PySem.W.keepIn K (.ref c_InvalidKind) = true)
    (xga_InvalidKind : PySem.W.findIn K (.ref c_InvalidKind) "__getattribute__" = some (some (.builtin "BaseException.__getattribute__")))
    (xgg_InvalidKind : PySem.W.findIn K (.ref c_InvalidKind) "__getattr__" = some none)
    (xhd_InvalidKind : PySem.W.hasDictIn K c_InvalidKind = true)
    (xic_InvalidKind : PySem.W.isClsIn K c_InvalidKind = true)
    (xn_InvalidKind_value : PySem.W.findIn K (.ref c_InvalidKind) "value" = some none)
    (xm_InvalidKind_CallError : PySem.W.subIn K (.ref c_InvalidKind) (.ref c_CallError) = some true)
    (xm_InvalidKind_LimitError : PySem.W.subIn K (.ref c_InvalidKind) (.ref c_LimitError) = some false)
    (xm_InvalidKind_InvalidName : PySem.W.subIn K (.ref c_InvalidKind) (.ref c_InvalidName) = some false)
    (xm_InvalidKind_InvalidKind : PySem.W.subIn K (.ref c_InvalidKind) (.ref c_InvalidKind) = some true)
    (xm_InvalidKind_InvalidBook : PySem.W.subIn K (.ref c_InvalidKind) (.ref c_InvalidBook) = some false)
    (xm_InvalidKind_TooMany : PySem.W.subIn K (.ref c_InvalidKind) (.ref c_TooMany) = some false)
    (xe_InvalidKind_CallError : (Value.ref c_InvalidKind == Value.ref c_CallError) = false)
    (xv_InvalidKind : PySem.W.subIn K (.ref c_InvalidKind) (.type "ValueError") = some true)
    (g_InvalidBook : PySem.W.nsIn K mainGlobals "InvalidBook" = some (some (.ref c_InvalidBook)))
    (xl_InvalidBook : K.lookup c_InvalidBook = some (excClassObj xnm_InvalidBook xq_InvalidBook c_InvalidBook xN_InvalidBook xbs_InvalidBook xbm_InvalidBook true xsn_InvalidBook xsub_InvalidBook xab_InvalidBook xcol_InvalidBook xdd_InvalidBook xk0_InvalidBook xk1_InvalidBook xk2_InvalidBook xk3_InvalidBook xk5_InvalidBook "ValueError.__new__"))
    (xt_InvalidBook : PySem.W.excTail [.type "ValueError", .type "Exception", .type "BaseException", .type "object"] xbm_InvalidBook = true)
    (xsa_InvalidBook : PySem.W.findIn K (.ref c_InvalidBook) "__setattr__" = some (some (.builtin "object.__setattr__")))
    (xex_InvalidBook : PySem.W.subIn K (.ref c_InvalidBook) (.type "BaseException") = some true)
    (xty_InvalidBook : PySem.W.typeIn K (.ref c_InvalidBook) = some (.type "type"))
    (xkc_InvalidBook : PySem.W.keepIn K (.ref c_InvalidBook) = true)
    (xga_InvalidBook : PySem.W.findIn K (.ref c_InvalidBook) "__getattribute__" = some (some (.builtin "BaseException.__getattribute__")))
    (xgg_InvalidBook : PySem.W.findIn K (.ref c_InvalidBook) "__getattr__" = some none)
    (xhd_InvalidBook : PySem.W.hasDictIn K c_InvalidBook = true)
    (xic_InvalidBook : PySem.W.isClsIn K c_InvalidBook = true)
    (xn_InvalidBook_value : PySem.W.findIn K (.ref c_InvalidBook) "value" = some none)
    (xm_InvalidBook_CallError : PySem.W.subIn K (.ref c_InvalidBook) (.ref c_CallError) = some true)
    (xm_InvalidBook_LimitError : PySem.W.subIn K (.ref c_InvalidBook) (.ref c_LimitError) = some false)
    (xm_InvalidBook_InvalidName : PySem.W.subIn K (.ref c_InvalidBook) (.ref c_InvalidName) = some false)
    (xm_InvalidBook_InvalidKind : PySem.W.subIn K (.ref c_InvalidBook) (.ref c_InvalidKind) = some false)
    (xm_InvalidBook_InvalidBook : PySem.W.subIn K (.ref c_InvalidBook) (.ref c_InvalidBook) = some true)
    (xm_InvalidBook_TooMany : PySem.W.subIn K (.ref c_InvalidBook) (.ref c_TooMany) = some false)
    (xe_InvalidBook_CallError : (Value.ref c_InvalidBook == Value.ref c_CallError) = false)
    (xv_InvalidBook : PySem.W.subIn K (.ref c_InvalidBook) (.type "ValueError") = some true)
    (g_TooMany : PySem.W.nsIn K mainGlobals "TooMany" = some (some (.ref c_TooMany)))
    (xl_TooMany : K.lookup c_TooMany = some (excClassObj xnm_TooMany xq_TooMany c_TooMany xN_TooMany xbs_TooMany xbm_TooMany true xsn_TooMany xsub_TooMany xab_TooMany xcol_TooMany xdd_TooMany xk0_TooMany xk1_TooMany xk2_TooMany xk3_TooMany xk5_TooMany "ArithmeticError.__new__"))
    (xt_TooMany : PySem.W.excTail [.type "ArithmeticError", .type "Exception", .type "BaseException", .type "object"] xbm_TooMany = true)
    (xsa_TooMany : PySem.W.findIn K (.ref c_TooMany) "__setattr__" = some (some (.builtin "object.__setattr__")))
    (xex_TooMany : PySem.W.subIn K (.ref c_TooMany) (.type "BaseException") = some true)
    (xty_TooMany : PySem.W.typeIn K (.ref c_TooMany) = some (.type "type"))
    (xkc_TooMany : PySem.W.keepIn K (.ref c_TooMany) = true)
    (xga_TooMany : PySem.W.findIn K (.ref c_TooMany) "__getattribute__" = some (some (.builtin "BaseException.__getattribute__")))
    (xgg_TooMany : PySem.W.findIn K (.ref c_TooMany) "__getattr__" = some none)
    (xhd_TooMany : PySem.W.hasDictIn K c_TooMany = true)
    (xic_TooMany : PySem.W.isClsIn K c_TooMany = true)
    (xn_TooMany_what : PySem.W.findIn K (.ref c_TooMany) "what" = some none)
    (xn_TooMany_limit : PySem.W.findIn K (.ref c_TooMany) "limit" = some none)
    (xm_TooMany_CallError : PySem.W.subIn K (.ref c_TooMany) (.ref c_CallError) = some false)
    (xm_TooMany_LimitError : PySem.W.subIn K (.ref c_TooMany) (.ref c_LimitError) = some true)
    (xm_TooMany_InvalidName : PySem.W.subIn K (.ref c_TooMany) (.ref c_InvalidName) = some false)
    (xm_TooMany_InvalidKind : PySem.W.subIn K (.ref c_TooMany) (.ref c_InvalidKind) = some false)
    (xm_TooMany_InvalidBook : PySem.W.subIn K (.ref c_TooMany) (.ref c_InvalidBook) = some false)
    (xm_TooMany_TooMany : PySem.W.subIn K (.ref c_TooMany) (.ref c_TooMany) = some true)
    (xe_TooMany_LimitError : (Value.ref c_TooMany == Value.ref c_LimitError) = false)
    (xv_TooMany : PySem.W.subIn K (.ref c_TooMany) (.type "ArithmeticError") = some true)
    (a_is_integer : PySem.W.nsIn K mainGlobals "is_integer" = some (some (.ref f_is_integer)))
    (l_is_integer : K.lookup f_is_integer = some ⟨oc_is_integer, od_is_integer, .func (PySem.W.fnOf "is_integer" "is_integer" (defArgs st_is_integer) (defBody st_is_integer) (defScope st_is_integer) .none kV_is_integer dc_is_integer pm_is_integer an_is_integer cd_is_integer ct_is_integer), sl_is_integer⟩)
    (c_is_integer : PySem.W.codeIn K cd_is_integer "is_integer" = true)
    (k_is_integer : PySem.W.keepIn K (.ref f_is_integer) = true)
    (a_is_between : PySem.W.nsIn K mainGlobals "is_between" = some (some (.ref f_is_between)))
    (l_is_between : K.lookup f_is_between = some ⟨oc_is_between, od_is_between, .func (PySem.W.fnOf "is_between" "is_between" (defArgs st_is_between) (defBody st_is_between) (defScope st_is_between) .none kV_is_between dc_is_between pm_is_between an_is_between cd_is_between ct_is_between), sl_is_between⟩)
    (c_is_between : PySem.W.codeIn K cd_is_between "is_between" = true)
    (k_is_between : PySem.W.keepIn K (.ref f_is_between) = true)
    (a_is_one_of : PySem.W.nsIn K mainGlobals "is_one_of" = some (some (.ref f_is_one_of)))
    (l_is_one_of : K.lookup f_is_one_of = some ⟨oc_is_one_of, od_is_one_of, .func (PySem.W.fnOf "is_one_of" "is_one_of" (defArgs st_is_one_of) (defBody st_is_one_of) (defScope st_is_one_of) .none kV_is_one_of dc_is_one_of pm_is_one_of an_is_one_of cd_is_one_of ct_is_one_of), sl_is_one_of⟩)
    (c_is_one_of : PySem.W.codeIn K cd_is_one_of "is_one_of" = true)
    (k_is_one_of : PySem.W.keepIn K (.ref f_is_one_of) = true)
    (a_is_word_of : PySem.W.nsIn K mainGlobals "is_word_of" = some (some (.ref f_is_word_of)))
    (l_is_word_of : K.lookup f_is_word_of = some ⟨oc_is_word_of, od_is_word_of, .func (PySem.W.fnOf "is_word_of" "is_word_of" (defArgs st_is_word_of) (defBody st_is_word_of) (defScope st_is_word_of) .none kV_is_word_of dc_is_word_of pm_is_word_of an_is_word_of cd_is_word_of ct_is_word_of), sl_is_word_of⟩)
    (c_is_word_of : PySem.W.codeIn K cd_is_word_of "is_word_of" = true)
    (k_is_word_of : PySem.W.keepIn K (.ref f_is_word_of) = true)
    (a_is_name : PySem.W.nsIn K mainGlobals "is_name" = some (some (.ref f_is_name)))
    (l_is_name : K.lookup f_is_name = some ⟨oc_is_name, od_is_name, .func (PySem.W.fnOf "is_name" "is_name" (defArgs st_is_name) (defBody st_is_name) (defScope st_is_name) .none kV_is_name dc_is_name pm_is_name an_is_name cd_is_name ct_is_name), sl_is_name⟩)
    (c_is_name : PySem.W.codeIn K cd_is_name "is_name" = true)
    (k_is_name : PySem.W.keepIn K (.ref f_is_name) = true)
    (a_Kind_init : PySem.W.findIn K (.ref c_Kind) "__init__" = some (some (.ref f_Kind_init)))
    (i_Kind_init : PySem.W.isFn K (.ref f_Kind_init) = true)
    (l_Kind_init : K.lookup f_Kind_init = some ⟨oc_Kind_init, od_Kind_init, .func (PySem.W.fnOf "__init__" "Kind.__init__" (defArgs st_Kind_init) (defBody st_Kind_init) (defScope st_Kind_init) (.ref T0_Kind) (.ref D0_Kind) dc_Kind_init pm_Kind_init an_Kind_init cd_Kind_init ct_Kind_init), sl_Kind_init⟩)
    (c_Kind_init : PySem.W.codeIn K cd_Kind_init "Kind.__init__" = true)
    (k_Kind_init : PySem.W.keepIn K (.ref f_Kind_init) = true)
    (tO_Kind : K.lookup T0_Kind = some ⟨ocT_Kind, odT_Kind, .seq itT_Kind nT_Kind, slT_Kind⟩)
    (vT_Kind : Vals [.str "whole"] itT_Kind.toList)
    (kq_Kind_size : PySem.W.nsIn K D0_Kind "size" = some (some uk_Kind_size))
    (kr_Kind_size : RelV (.int 8) uk_Kind_size)
    (kq_Kind_width : PySem.W.nsIn K D0_Kind "width" = some (some uk_Kind_width))
    (kr_Kind_width : RelV (.non) uk_Kind_width)
    (kq_Kind_align : PySem.W.nsIn K D0_Kind "align" = some (some uk_Kind_align))
    (kr_Kind_align : RelV (.non) uk_Kind_align)
    (a_Kind_name : PySem.W.findIn K (.ref c_Kind) "name" = some (some (.ref p_Kind_name)))
    (g_Kind_name : PySem.W.specialIn K (.ref p_Kind_name) "__get__" = some (some (.builtin "property.__get__")))
    (t_Kind_name : PySem.W.takesIn K (.ref p_Kind_name) = some true)
    (r_Kind_name : PySem.W.recIn K p_Kind_name "property" = some (.ref f_Kind_name :: re_Kind_name))
    (l_Kind_name : K.lookup f_Kind_name = some ⟨oc_Kind_name, od_Kind_name, .func (PySem.W.fnOf "name" "Kind.name" (defArgs st_Kind_name) (defBody st_Kind_name) (defScope st_Kind_name) .none kV_Kind_name dc_Kind_name pm_Kind_name an_Kind_name cd_Kind_name ct_Kind_name), sl_Kind_name⟩)
    (c_Kind_name : PySem.W.codeIn K cd_Kind_name "Kind.name" = true)
    (k_Kind_name : PySem.W.keepIn K (.ref f_Kind_name) = true)
    (a_Kind_parts : PySem.W.findIn K (.ref c_Kind) "parts" = some (some (.ref f_Kind_parts)))
    (i_Kind_parts : PySem.W.isFn K (.ref f_Kind_parts) = true)
    (l_Kind_parts : K.lookup f_Kind_parts = some ⟨oc_Kind_parts, od_Kind_parts, .func (PySem.W.fnOf "parts" "Kind.parts" (defArgs st_Kind_parts) (defBody st_Kind_parts) (defScope st_Kind_parts) .none kV_Kind_parts dc_Kind_parts pm_Kind_parts an_Kind_parts cd_Kind_parts ct_Kind_parts), sl_Kind_parts⟩)
    (c_Kind_parts : PySem.W.codeIn K cd_Kind_parts "Kind.parts" = true)
    (k_Kind_parts : PySem.W.keepIn K (.ref f_Kind_parts) = true)
    (a_InvalidName_init : PySem.W.findIn K (.ref c_InvalidName) "__init__" = some (some (.ref f_InvalidName_init)))
    (i_InvalidName_init : PySem.W.isFn K (.ref f_InvalidName_init) = true)
    (t_InvalidName_init : PySem.W.typeIn K (.ref f_InvalidName_init) = some (.type "function"))
    (l_InvalidName_init : K.lookup f_InvalidName_init = some ⟨oc_InvalidName_init, od_InvalidName_init, .func (PySem.W.fnOf "__init__" "InvalidName.__init__" (defArgs st_InvalidName_init) (defBody st_InvalidName_init) (defScope st_InvalidName_init) .none kV_InvalidName_init dc_InvalidName_init pm_InvalidName_init an_InvalidName_init cd_InvalidName_init ct_InvalidName_init), sl_InvalidName_init⟩)
    (c_InvalidName_init : PySem.W.codeIn K cd_InvalidName_init "InvalidName.__init__" = true)
    (k_InvalidName_init : PySem.W.keepIn K (.ref f_InvalidName_init) = true)
    (a_InvalidKind_init : PySem.W.findIn K (.ref c_InvalidKind) "__init__" = some (some (.ref f_InvalidKind_init)))
    (i_InvalidKind_init : PySem.W.isFn K (.ref f_InvalidKind_init) = true)
    (t_InvalidKind_init : PySem.W.typeIn K (.ref f_InvalidKind_init) = some (.type "function"))
    (l_InvalidKind_init : K.lookup f_InvalidKind_init = some ⟨oc_InvalidKind_init, od_InvalidKind_init, .func (PySem.W.fnOf "__init__" "InvalidKind.__init__" (defArgs st_InvalidKind_init) (defBody st_InvalidKind_init) (defScope st_InvalidKind_init) .none kV_InvalidKind_init dc_InvalidKind_init pm_InvalidKind_init an_InvalidKind_init cd_InvalidKind_init ct_InvalidKind_init), sl_InvalidKind_init⟩)
    (c_InvalidKind_init : PySem.W.codeIn K cd_InvalidKind_init "InvalidKind.__init__" = true)
    (k_InvalidKind_init : PySem.W.keepIn K (.ref f_InvalidKind_init) = true)
    (a_InvalidBook_init : PySem.W.findIn K (.ref c_InvalidBook) "__init__" = some (some (.ref f_InvalidBook_init)))
    (i_InvalidBook_init : PySem.W.isFn K (.ref f_InvalidBook_init) = true)
    (t_InvalidBook_init : PySem.W.typeIn K (.ref f_InvalidBook_init) = some (.type "function"))
    (l_InvalidBook_init : K.lookup f_InvalidBook_init = some ⟨oc_InvalidBook_init, od_InvalidBook_init, .func (PySem.W.fnOf "__init__" "InvalidBook.__init__" (defArgs st_InvalidBook_init) (defBody st_InvalidBook_init) (defScope st_InvalidBook_init) .none kV_InvalidBook_init dc_InvalidBook_init pm_InvalidBook_init an_InvalidBook_init cd_InvalidBook_init ct_InvalidBook_init), sl_InvalidBook_init⟩)
    (c_InvalidBook_init : PySem.W.codeIn K cd_InvalidBook_init "InvalidBook.__init__" = true)
    (k_InvalidBook_init : PySem.W.keepIn K (.ref f_InvalidBook_init) = true)
    (a_TooMany_init : PySem.W.findIn K (.ref c_TooMany) "__init__" = some (some (.ref f_TooMany_init)))
    (i_TooMany_init : PySem.W.isFn K (.ref f_TooMany_init) = true)
    (t_TooMany_init : PySem.W.typeIn K (.ref f_TooMany_init) = some (.type "function"))
    (l_TooMany_init : K.lookup f_TooMany_init = some ⟨oc_TooMany_init, od_TooMany_init, .func (PySem.W.fnOf "__init__" "TooMany.__init__" (defArgs st_TooMany_init) (defBody st_TooMany_init) (defScope st_TooMany_init) .none kV_TooMany_init dc_TooMany_init pm_TooMany_init an_TooMany_init cd_TooMany_init ct_TooMany_init), sl_TooMany_init⟩)
    (c_TooMany_init : PySem.W.codeIn K cd_TooMany_init "TooMany.__init__" = true)
    (k_TooMany_init : PySem.W.keepIn K (.ref f_TooMany_init) = true)
    (a_Book_init : PySem.W.findIn K (.ref c_Book) "__init__" = some (some (.ref f_Book_init)))
    (i_Book_init : PySem.W.isFn K (.ref f_Book_init) = true)
    (l_Book_init : K.lookup f_Book_init = some ⟨oc_Book_init, od_Book_init, .func (PySem.W.fnOf "__init__" "Book.__init__" (defArgs st_Book_init) (defBody st_Book_init) (defScope st_Book_init) .none kV_Book_init dc_Book_init pm_Book_init an_Book_init cd_Book_init ct_Book_init), sl_Book_init⟩)
    (c_Book_init : PySem.W.codeIn K cd_Book_init "Book.__init__" = true)
    (k_Book_init : PySem.W.keepIn K (.ref f_Book_init) = true)
    (a_Book_names : PySem.W.findIn K (.ref c_Book) "names" = some (some (.ref f_Book_names)))
    (i_Book_names : PySem.W.isFn K (.ref f_Book_names) = true)
    (l_Book_names : K.lookup f_Book_names = some ⟨oc_Book_names, od_Book_names, .func (PySem.W.fnOf "names" "Book.names" (defArgs st_Book_names) (defBody st_Book_names) (defScope st_Book_names) .none kV_Book_names dc_Book_names pm_Book_names an_Book_names cd_Book_names ct_Book_names), sl_Book_names⟩)
    (c_Book_names : PySem.W.codeIn K cd_Book_names "Book.names" = true)
    (k_Book_names : PySem.W.keepIn K (.ref f_Book_names) = true)
    (a_Book_kinds : PySem.W.findIn K (.ref c_Book) "kinds" = some (some (.ref f_Book_kinds)))
    (i_Book_kinds : PySem.W.isFn K (.ref f_Book_kinds) = true)
    (l_Book_kinds : K.lookup f_Book_kinds = some ⟨oc_Book_kinds, od_Book_kinds, .func (PySem.W.fnOf "kinds" "Book.kinds" (defArgs st_Book_kinds) (defBody st_Book_kinds) (defScope st_Book_kinds) .none kV_Book_kinds dc_Book_kinds pm_Book_kinds an_Book_kinds cd_Book_kinds ct_Book_kinds), sl_Book_kinds⟩)
    (c_Book_kinds : PySem.W.codeIn K cd_Book_kinds "Book.kinds" = true)
    (k_Book_kinds : PySem.W.keepIn K (.ref f_Book_kinds) = true)
    (a_Book_add : PySem.W.findIn K (.ref c_Book) "__add__" = some (some (.ref f_Book_add)))
    (i_Book_add : PySem.W.isFn K (.ref f_Book_add) = true)
    (l_Book_add : K.lookup f_Book_add = some ⟨oc_Book_add, od_Book_add, .func (PySem.W.fnOf "__add__" "Book.__add__" (defArgs st_Book_add) (defBody st_Book_add) (defScope st_Book_add) .none kV_Book_add dc_Book_add pm_Book_add an_Book_add cd_Book_add ct_Book_add), sl_Book_add⟩)
    (c_Book_add : PySem.W.codeIn K cd_Book_add "Book.__add__" = true)
    (k_Book_add : PySem.W.keepIn K (.ref f_Book_add) = true)
    (a_l_draw : PySem.W.nsIn K mainGlobals "_law_draw" = some (some (.ref f_l_draw)))
    (l_l_draw : K.lookup f_l_draw = some ⟨oc_l_draw, od_l_draw, .func (PySem.W.fnOf "_law_draw" "_law_draw" (defArgs st_l_draw) (defBody st_l_draw) (defScope st_l_draw) .none kV_l_draw dc_l_draw pm_l_draw an_l_draw cd_l_draw ct_l_draw), sl_l_draw⟩)
    (c_l_draw : PySem.W.codeIn K cd_l_draw "_law_draw" = true)
    (k_l_draw : PySem.W.keepIn K (.ref f_l_draw) = true)
    (a_l_pick : PySem.W.nsIn K mainGlobals "_law_pick" = some (some (.ref f_l_pick)))
    (l_l_pick : K.lookup f_l_pick = some ⟨oc_l_pick, od_l_pick, .func (PySem.W.fnOf "_law_pick" "_law_pick" (defArgs st_l_pick) (defBody st_l_pick) (defScope st_l_pick) .none kV_l_pick dc_l_pick pm_l_pick an_l_pick cd_l_pick ct_l_pick), sl_l_pick⟩)
    (c_l_pick : PySem.W.codeIn K cd_l_pick "_law_pick" = true)
    (k_l_pick : PySem.W.keepIn K (.ref f_l_pick) = true)
    (a_l_pot : PySem.W.nsIn K mainGlobals "_law_pot" = some (some (.ref f_l_pot)))
    (l_l_pot : K.lookup f_l_pot = some ⟨oc_l_pot, od_l_pot, .func (PySem.W.fnOf "_law_pot" "_law_pot" (defArgs st_l_pot) (defBody st_l_pot) (defScope st_l_pot) .none kV_l_pot dc_l_pot pm_l_pot an_l_pot cd_l_pot ct_l_pot), sl_l_pot⟩)
    (c_l_pot : PySem.W.codeIn K cd_l_pot "_law_pot" = true)
    (k_l_pot : PySem.W.keepIn K (.ref f_l_pot) = true)
    (a_l_row : PySem.W.nsIn K mainGlobals "_law_row" = some (some (.ref f_l_row)))
    (l_l_row : K.lookup f_l_row = some ⟨oc_l_row, od_l_row, .func (PySem.W.fnOf "_law_row" "_law_row" (defArgs st_l_row) (defBody st_l_row) (defScope st_l_row) .none kV_l_row dc_l_row pm_l_row an_l_row cd_l_row ct_l_row), sl_l_row⟩)
    (c_l_row : PySem.W.codeIn K cd_l_row "_law_row" = true)
    (k_l_row : PySem.W.keepIn K (.ref f_l_row) = true)
    (a_l_kind : PySem.W.nsIn K mainGlobals "_law_kind" = some (some (.ref f_l_kind)))
    (l_l_kind : K.lookup f_l_kind = some ⟨oc_l_kind, od_l_kind, .func (PySem.W.fnOf "_law_kind" "_law_kind" (defArgs st_l_kind) (defBody st_l_kind) (defScope st_l_kind) .none kV_l_kind dc_l_kind pm_l_kind an_l_kind cd_l_kind ct_l_kind), sl_l_kind⟩)
    (c_l_kind : PySem.W.codeIn K cd_l_kind "_law_kind" = true)
    (k_l_kind : PySem.W.keepIn K (.ref f_l_kind) = true)
    (a_l_named : PySem.W.nsIn K mainGlobals "_law_named" = some (some (.ref f_l_named)))
    (l_l_named : K.lookup f_l_named = some ⟨oc_l_named, od_l_named, .func (PySem.W.fnOf "_law_named" "_law_named" (defArgs st_l_named) (defBody st_l_named) (defScope st_l_named) .none kV_l_named dc_l_named pm_l_named an_l_named cd_l_named ct_l_named), sl_l_named⟩)
    (c_l_named : PySem.W.codeIn K cd_l_named "_law_named" = true)
    (k_l_named : PySem.W.keepIn K (.ref f_l_named) = true)
    (a_l_told : PySem.W.nsIn K mainGlobals "_law_told" = some (some (.ref f_l_told)))
    (l_l_told : K.lookup f_l_told = some ⟨oc_l_told, od_l_told, .func (PySem.W.fnOf "_law_told" "_law_told" (defArgs st_l_told) (defBody st_l_told) (defScope st_l_told) .none kV_l_told dc_l_told pm_l_told an_l_told cd_l_told ct_l_told), sl_l_told⟩)
    (c_l_told : PySem.W.codeIn K cd_l_told "_law_told" = true)
    (k_l_told : PySem.W.keepIn K (.ref f_l_told) = true)
    (a_l_thing : PySem.W.nsIn K mainGlobals "_law_thing" = some (some (.ref f_l_thing)))
    (l_l_thing : K.lookup f_l_thing = some ⟨oc_l_thing, od_l_thing, .func (PySem.W.fnOf "_law_thing" "_law_thing" (defArgs st_l_thing) (defBody st_l_thing) (defScope st_l_thing) .none kV_l_thing dc_l_thing pm_l_thing an_l_thing cd_l_thing ct_l_thing), sl_l_thing⟩)
    (c_l_thing : PySem.W.codeIn K cd_l_thing "_law_thing" = true)
    (k_l_thing : PySem.W.keepIn K (.ref f_l_thing) = true)
    (a_l_due : PySem.W.nsIn K mainGlobals "_law_due" = some (some (.ref f_l_due)))
    (l_l_due : K.lookup f_l_due = some ⟨oc_l_due, od_l_due, .func (PySem.W.fnOf "_law_due" "_law_due" (defArgs st_l_due) (defBody st_l_due) (defScope st_l_due) .none kV_l_due dc_l_due pm_l_due an_l_due cd_l_due ct_l_due), sl_l_due⟩)
    (c_l_due : PySem.W.codeIn K cd_l_due "_law_due" = true)
    (k_l_due : PySem.W.keepIn K (.ref f_l_due) = true)
    (a_l_at_once : PySem.W.nsIn K mainGlobals "_law_at_once" = some (some (.ref f_l_at_once)))
    (l_l_at_once : K.lookup f_l_at_once = some ⟨oc_l_at_once, od_l_at_once, .func (PySem.W.fnOf "_law_at_once" "_law_at_once" (defArgs st_l_at_once) (defBody st_l_at_once) (defScope st_l_at_once) .none kV_l_at_once dc_l_at_once pm_l_at_once an_l_at_once (.ref cM1) ct_l_at_once), sl_l_at_once⟩)
    (c_l_at_once : PySem.W.codeIn K (.ref cM1) "_law_at_once" = true)
    (k_l_at_once : PySem.W.keepIn K (.ref f_l_at_once) = true)
    (a_l_right : PySem.W.nsIn K mainGlobals "_law_right" = some (some (.ref f_l_right)))
    (l_l_right : K.lookup f_l_right = some ⟨oc_l_right, od_l_right, .func (PySem.W.fnOf "_law_right" "_law_right" (defArgs st_l_right) (defBody st_l_right) (defScope st_l_right) .none kV_l_right dc_l_right pm_l_right an_l_right (.ref cM2) ct_l_right), sl_l_right⟩)
    (c_l_right : PySem.W.codeIn K (.ref cM2) "_law_right" = true)
    (k_l_right : PySem.W.keepIn K (.ref f_l_right) = true)
    (a_law : PySem.W.nsIn K mainGlobals "law" = some (some (.ref f_law)))
    (l_law : K.lookup f_law = some ⟨oc_law, od_law, .func (PySem.W.fnOf "law" "law" (defArgs st_law) (defBody st_law) (defScope st_law) .none kV_law dc_law pm_law an_law cd_law ct_law), sl_law⟩)
    (c_law : PySem.W.codeIn K cd_law "law" = true)
    (k_law : PySem.W.keepIn K (.ref f_law) = true)
    (NE : P1 ≠ P2)
    (nP_P1 : K.lookup P1 = none) (cP_P1 : PySem.W.codeHdIn K cM1 P1 = true)
    (nP_P2 : K.lookup P2 = none) (cP_P2 : PySem.W.codeHdIn K cM2 P2 = true) :
    UL.LawAtG l w K 10 63 "_law_script" mg fa h := by
  have e := hfa.symm.trans (PySem.W.mg_of X G a_law)
  cases e
  obtain ⟨fd, hb, hF⟩ := core (ad := ⟨c_CallError, c_InvalidName, c_InvalidKind, c_InvalidBook, zz_c_MissingError, zz_c_UnknownKind, c_LimitError, c_TooMany, c_Kind, c_Book, a_GROUPS, a_ALIGNMENTS, a_SIZES⟩) (P1 := P1) (P2 := P2) X G cn ctk g_Kind pgKind hdKind poKind saKind caKind cmKind icKind tyKind mkKind kcKind suKind_NoneType suKind_tuple suKind_str suKind_int suKind_list suKind_bool suKind_dict neKind nKind_name nKind_group nKind_size nKind_width nKind_align nKind_parts clKind mrKind cadKind crdKind oad ord_ g_Book pgBook hdBook poBook saBook caBook cmBook icBook tyBook mkBook kcBook suBook_NoneType suBook_tuple suBook_str suBook_int suBook_list suBook_bool suBook_dict neBook nBook_kinds nBook_names nBook_parts sfBook sta str_ nrBook ta_NoneType tr_NoneType ta_tuple tr_tuple ta_str tr_str ta_int tr_int ta_list tr_list ta_bool tr_bool ta_dict tr_dict ga_LONGEST_NAME v_LONGEST_NAME ga_NAME_LETTERS v_NAME_LETTERS ga_GROUPS o_GROUPS v_GROUPS ga_ALIGNMENTS o_ALIGNMENTS v_ALIGNMENTS ga_SIZES o_SIZES v_SIZES ga_DOUBLE_SIZE v_DOUBLE_SIZE ga_LEAST_WIDTH v_LEAST_WIDTH ga_LEAST_DOUBLE_WIDTH v_LEAST_DOUBLE_WIDTH ga_MOST_KINDS v_MOST_KINDS b_ArithmeticError b_LookupError b_ValueError b_abs b_all b_bool b_divmod b_enumerate b_int b_isinstance b_len b_list b_max b_min b_property b_range b_repr b_str b_tuple g_CallError xl_CallError xt_CallError xsa_CallError xex_CallError xty_CallError xkc_CallError xga_CallError xgg_CallError xhd_CallError xic_CallError xm_CallError_CallError xm_CallError_LimitError xm_CallError_InvalidName xm_CallError_InvalidKind xm_CallError_InvalidBook xm_CallError_TooMany xv_CallError g_LimitError xl_LimitError xt_LimitError xsa_LimitError xex_LimitError xty_LimitError xkc_LimitError xga_LimitError xgg_LimitError xhd_LimitError xic_LimitError xm_LimitError_CallError xm_LimitError_LimitError xm_LimitError_InvalidName xm_LimitError_InvalidKind xm_LimitError_InvalidBook xm_LimitError_TooMany xv_LimitError g_InvalidName xl_InvalidName xt_InvalidName xsa_InvalidName xex_InvalidName xty_InvalidName xkc_InvalidName xga_InvalidName xgg_InvalidName xhd_InvalidName xic_InvalidName xn_InvalidName_value xm_InvalidName_CallError xm_InvalidName_LimitError xm_InvalidName_InvalidName xm_InvalidName_InvalidKind xm_InvalidName_InvalidBook xm_InvalidName_TooMany xe_InvalidName_CallError xv_InvalidName g_InvalidKind xl_InvalidKind xt_InvalidKind xsa_InvalidKind xex_InvalidKind xty_InvalidKind xkc_InvalidKind xga_InvalidKind xgg_InvalidKind xhd_InvalidKind xic_InvalidKind xn_InvalidKind_value xm_InvalidKind_CallError xm_InvalidKind_LimitError xm_InvalidKind_InvalidName xm_InvalidKind_InvalidKind xm_InvalidKind_InvalidBook xm_InvalidKind_TooMany xe_InvalidKind_CallError xv_InvalidKind g_InvalidBook xl_InvalidBook xt_InvalidBook xsa_InvalidBook xex_InvalidBook xty_InvalidBook xkc_InvalidBook xga_InvalidBook xgg_InvalidBook xhd_InvalidBook xic_InvalidBook xn_InvalidBook_value xm_InvalidBook_CallError xm_InvalidBook_LimitError xm_InvalidBook_InvalidName xm_InvalidBook_InvalidKind xm_InvalidBook_InvalidBook xm_InvalidBook_TooMany xe_InvalidBook_CallError xv_InvalidBook g_TooMany xl_TooMany xt_TooMany xsa_TooMany xex_TooMany xty_TooMany xkc_TooMany xga_TooMany xgg_TooMany xhd_TooMany xic_TooMany xn_TooMany_what xn_TooMany_limit xm_TooMany_CallError xm_TooMany_LimitError xm_TooMany_InvalidName xm_TooMany_InvalidKind xm_TooMany_InvalidBook xm_TooMany_TooMany xe_TooMany_LimitError xv_TooMany a_is_integer l_is_integer c_is_integer k_is_integer a_is_between l_is_between c_is_between k_is_between a_is_one_of l_is_one_of c_is_one_of k_is_one_of a_is_word_of l_is_word_of c_is_word_of k_is_word_of a_is_name l_is_name c_is_name k_is_name a_Kind_init i_Kind_init l_Kind_init c_Kind_init k_Kind_init tO_Kind vT_Kind kq_Kind_size kr_Kind_size kq_Kind_width kr_Kind_width kq_Kind_align kr_Kind_align a_Kind_name g_Kind_name t_Kind_name r_Kind_name l_Kind_name c_Kind_name k_Kind_name a_Kind_parts i_Kind_parts l_Kind_parts c_Kind_parts k_Kind_parts a_InvalidName_init i_InvalidName_init t_InvalidName_init l_InvalidName_init c_InvalidName_init k_InvalidName_init a_InvalidKind_init i_InvalidKind_init t_InvalidKind_init l_InvalidKind_init c_InvalidKind_init k_InvalidKind_init a_InvalidBook_init i_InvalidBook_init t_InvalidBook_init l_InvalidBook_init c_InvalidBook_init k_InvalidBook_init a_TooMany_init i_TooMany_init t_TooMany_init l_TooMany_init c_TooMany_init k_TooMany_init a_Book_init i_Book_init l_Book_init c_Book_init k_Book_init a_Book_names i_Book_names l_Book_names c_Book_names k_Book_names a_Book_kinds i_Book_kinds l_Book_kinds c_Book_kinds k_Book_kinds a_Book_add i_Book_add l_Book_add c_Book_add k_Book_add a_l_draw l_l_draw c_l_draw k_l_draw a_l_pick l_l_pick c_l_pick k_l_pick a_l_pot l_l_pot c_l_pot k_l_pot a_l_row l_l_row c_l_row k_l_row a_l_kind l_l_kind c_l_kind k_l_kind a_l_named l_l_named c_l_named k_l_named a_l_told l_l_told c_l_told k_l_told a_l_thing l_l_thing c_l_thing k_l_thing a_l_due l_l_due c_l_due k_l_due a_l_at_once l_l_at_once c_l_at_once k_l_at_once a_l_right l_l_right c_l_right k_l_right l_law c_law k_law NE
  refine ⟨fd, [(cM1, P1), (cM2, P2)], _, fun p hp => ?_, fun p hp => ?_, fun p hp => ?_, hb, fun H a ns hl hT hS => ?_, fun base Kb Gb TBs => hF base Kb Gb (TBs _ List.mem_cons_self) (TBs _ (List.mem_cons_of_mem _ List.mem_cons_self))⟩
  · simp only [List.mem_cons, List.not_mem_nil, or_false] at hp
    rcases hp with rfl | rfl
    · exact hP_P1
    · exact hP_P2
  · simp only [List.mem_cons, List.not_mem_nil, or_false] at hp
    rcases hp with rfl | rfl
    · exact nP_P1
    · exact nP_P2
  · simp only [List.mem_cons, List.not_mem_nil, or_false] at hp
    rcases hp with rfl | rfl
    · exact cP_P1
    · exact cP_P2
  · refine ⟨a, ns, rfl, hS, hl, fun p hp => ?_, fun _ => rfl⟩
    have hp : p ∈ [(P1, ("_law_at_once" : Str) ++ ".<locals>." ++ "<lambda>"), (P2, ("_law_right" : Str) ++ ".<locals>." ++ "<lambda>")] := hp
    simp only [List.mem_cons, List.not_mem_nil, or_false] at hp
    rcases hp with rfl | rfl
    · exact LamX.TabS.nil (hT (cM1, P1) List.mem_cons_self)
    · exact LamX.TabS.nil (hT (cM2, P2) (List.mem_cons_of_mem _ List.mem_cons_self))
end K25
set_option Elab.async false
set_option linter.all false
open PySem PySem.W PyProof.Rows L2
set_option maxRecDepth 100000 in
set_option maxHeartbeats 0 in
theorem PySem.Challenge.cw_unlikecalls_k25_books_refused_holds : PySem.Challenge.rw_unlikecalls_k25_books_refused.Holds := by
  w_on; o_law; k_head; (case hw => w_witness2)
  k_fill
  refine UL.walkGS (l := PySem.Challenge.rw_unlikecalls_k25_books_refused) (n := 63) (k := 10) (x := "_law_script") rfl (by decide) rfl ⟨rfl, by decide, by decide⟩ (fun w h Y => PySem.W.km_in_of Y) ?F
  case F =>
    intro w mg fa h Y KX G hmg
    have hTab := PySem.W.km_tabs_of Y
    refine' K25.all_mk (zz_c_MissingError := 0) (zz_c_UnknownKind := 0) KX G hmg (hTab _ List.mem_cons_self) (hTab _ (List.mem_cons_of_mem _ List.mem_cons_self)) ?cn ?ctk ?g_Kind ?pgKind ?hdKind ?poKind ?saKind ?caKind ?cmKind ?icKind ?tyKind ?mkKind ?kcKind ?suKind_NoneType ?suKind_tuple ?suKind_str ?suKind_int ?suKind_list ?suKind_bool ?suKind_dict ?neKind ?nKind_name ?nKind_group ?nKind_size ?nKind_width ?nKind_align ?nKind_parts ?clKind ?mrKind ?cadKind ?crdKind ?oad ?ord_ ?g_Book ?pgBook ?hdBook ?poBook ?saBook ?caBook ?cmBook ?icBook ?tyBook ?mkBook ?kcBook ?suBook_NoneType ?suBook_tuple ?suBook_str ?suBook_int ?suBook_list ?suBook_bool ?suBook_dict ?neBook ?nBook_kinds ?nBook_names ?nBook_parts ?sfBook ?sta ?str_ ?nrBook ?ta_NoneType ?tr_NoneType ?ta_tuple ?tr_tuple ?ta_str ?tr_str ?ta_int ?tr_int ?ta_list ?tr_list ?ta_bool ?tr_bool ?ta_dict ?tr_dict ?ga_LONGEST_NAME ?v_LONGEST_NAME ?ga_NAME_LETTERS ?v_NAME_LETTERS ?ga_GROUPS ?o_GROUPS ?v_GROUPS ?ga_ALIGNMENTS ?o_ALIGNMENTS ?v_ALIGNMENTS ?ga_SIZES ?o_SIZES ?v_SIZES ?ga_DOUBLE_SIZE ?v_DOUBLE_SIZE ?ga_LEAST_WIDTH ?v_LEAST_WIDTH ?ga_LEAST_DOUBLE_WIDTH ?v_LEAST_DOUBLE_WIDTH ?ga_MOST_KINDS ?v_MOST_KINDS ?b_ArithmeticError ?b_LookupError ?b_ValueError ?b_abs ?b_all ?b_bool ?b_divmod ?b_enumerate ?b_int ?b_isinstance ?b_len ?b_list ?b_max ?b_min ?b_property ?b_range ?b_repr ?b_str ?b_tuple ?g_CallError ?xl_CallError ?xt_CallError ?xsa_CallError ?xex_CallError ?xty_CallError ?xkc_CallError ?xga_CallError ?xgg_CallError ?xhd_CallError ?xic_CallError ?xm_CallError_CallError ?xm_CallError_LimitError ?xm_CallError_InvalidName ?xm_CallError_InvalidKind ?xm_CallError_InvalidBook ?xm_CallError_TooMany ?xv_CallError ?g_LimitError ?xl_LimitError ?xt_LimitError ?xsa_LimitError ?xex_LimitError ?xty_LimitError ?xkc_LimitError ?xga_LimitError ?xgg_LimitError ?xhd_LimitError ?xic_LimitError ?xm_LimitError_CallError ?xm_LimitError_LimitError ?xm_LimitError_InvalidName ?xm_LimitError_InvalidKind ?xm_LimitError_InvalidBook ?xm_LimitError_TooMany ?xv_LimitError ?g_InvalidName ?xl_InvalidName ?xt_InvalidName ?xsa_InvalidName ?xex_InvalidName ?xty_InvalidName ?xkc_InvalidName ?xga_InvalidName ?xgg_InvalidName ?xhd_InvalidName ?xic_InvalidName ?xn_InvalidName_value ?xm_InvalidName_CallError ?xm_InvalidName_LimitError ?xm_InvalidName_InvalidName ?xm_InvalidName_InvalidKind ?xm_InvalidName_InvalidBook ?xm_InvalidName_TooMany ?xe_InvalidName_CallError ?xv_InvalidName ?g_InvalidKind ?xl_InvalidKind ?xt_InvalidKind ?xsa_InvalidKind ?xex_InvalidKind ?xty_InvalidKind ?xkc_InvalidKind ?xga_InvalidKind ?xgg_InvalidKind ?xhd_InvalidKind ?xic_InvalidKind ?xn_InvalidKind_value ?xm_InvalidKind_CallError ?xm_InvalidKind_LimitError ?xm_InvalidKind_InvalidName ?xm_InvalidKind_InvalidKind ?xm_InvalidKind_InvalidBook ?xm_InvalidKind_TooMany ?xe_InvalidKind_CallError ?xv_InvalidKind ?g_InvalidBook ?xl_InvalidBook ?xt_InvalidBook ?xsa_InvalidBook ?xex_InvalidBook ?xty_InvalidBook ?xkc_InvalidBook ?xga_InvalidBook ?xgg_InvalidBook ?xhd_InvalidBook ?xic_InvalidBook ?xn_InvalidBook_value ?xm_InvalidBook_CallError ?xm_InvalidBook_LimitError ?xm_InvalidBook_InvalidName ?xm_InvalidBook_InvalidKind ?xm_InvalidBook_InvalidBook ?xm_InvalidBook_TooMany ?xe_InvalidBook_CallError ?xv_InvalidBook ?g_TooMany ?xl_TooMany ?xt_TooMany ?xsa_TooMany ?xex_TooMany ?xty_TooMany ?xkc_TooMany ?xga_TooMany ?xgg_TooMany ?xhd_TooMany ?xic_TooMany ?xn_TooMany_what ?xn_TooMany_limit ?xm_TooMany_CallError ?xm_TooMany_LimitError ?xm_TooMany_InvalidName ?xm_TooMany_InvalidKind ?xm_TooMany_InvalidBook ?xm_TooMany_TooMany ?xe_TooMany_LimitError ?xv_TooMany ?a_is_integer ?l_is_integer ?c_is_integer ?k_is_integer ?a_is_between ?l_is_between ?c_is_between ?k_is_between ?a_is_one_of ?l_is_one_of ?c_is_one_of ?k_is_one_of ?a_is_word_of ?l_is_word_of ?c_is_word_of ?k_is_word_of ?a_is_name ?l_is_name ?c_is_name ?k_is_name ?a_Kind_init ?i_Kind_init ?l_Kind_init ?c_Kind_init ?k_Kind_init ?tO_Kind ?vT_Kind ?kq_Kind_size ?kr_Kind_size ?kq_Kind_width ?kr_Kind_width ?kq_Kind_align ?kr_Kind_align ?a_Kind_name ?g_Kind_name ?t_Kind_name ?r_Kind_name ?l_Kind_name ?c_Kind_name ?k_Kind_name ?a_Kind_parts ?i_Kind_parts ?l_Kind_parts ?c_Kind_parts ?k_Kind_parts ?a_InvalidName_init ?i_InvalidName_init ?t_InvalidName_init ?l_InvalidName_init ?c_InvalidName_init ?k_InvalidName_init ?a_InvalidKind_init ?i_InvalidKind_init ?t_InvalidKind_init ?l_InvalidKind_init ?c_InvalidKind_init ?k_InvalidKind_init ?a_InvalidBook_init ?i_InvalidBook_init ?t_InvalidBook_init ?l_InvalidBook_init ?c_InvalidBook_init ?k_InvalidBook_init ?a_TooMany_init ?i_TooMany_init ?t_TooMany_init ?l_TooMany_init ?c_TooMany_init ?k_TooMany_init ?a_Book_init ?i_Book_init ?l_Book_init ?c_Book_init ?k_Book_init ?a_Book_names ?i_Book_names ?l_Book_names ?c_Book_names ?k_Book_names ?a_Book_kinds ?i_Book_kinds ?l_Book_kinds ?c_Book_kinds ?k_Book_kinds ?a_Book_add ?i_Book_add ?l_Book_add ?c_Book_add ?k_Book_add ?a_l_draw ?l_l_draw ?c_l_draw ?k_l_draw ?a_l_pick ?l_l_pick ?c_l_pick ?k_l_pick ?a_l_pot ?l_l_pot ?c_l_pot ?k_l_pot ?a_l_row ?l_l_row ?c_l_row ?k_l_row ?a_l_kind ?l_l_kind ?c_l_kind ?k_l_kind ?a_l_named ?l_l_named ?c_l_named ?k_l_named ?a_l_told ?l_l_told ?c_l_told ?k_l_told ?a_l_thing ?l_l_thing ?c_l_thing ?k_l_thing ?a_l_due ?l_l_due ?c_l_due ?k_l_due ?a_l_at_once ?l_l_at_once ?c_l_at_once ?k_l_at_once ?a_l_right ?l_l_right ?c_l_right ?k_l_right ?a_law ?l_law ?c_law ?k_law ?NE ?nP_P1 ?cP_P1 ?nP_P2 ?cP_P2
    (case cn => k_is)
    (case ctk => k_is)
    (case g_Kind => k_is)
    (case pgKind => k_is)
    (case hdKind => k_is)
    (case poKind => k_is)
    (case saKind => k_is)
    (case caKind => k_is)
    (case cmKind => k_is)
    (case icKind => k_is)
    (case tyKind => k_is)
    (case mkKind => k_is)
    (case kcKind => k_is)
    (case suKind_NoneType => k_is)
    (case suKind_tuple => k_is)
    (case suKind_str => k_is)
    (case suKind_int => k_is)
    (case suKind_list => k_is)
    (case suKind_bool => k_is)
    (case suKind_dict => k_is)
    (case neKind => k_is)
    (case nKind_name => k_is)
    (case nKind_group => k_is)
    (case nKind_size => k_is)
    (case nKind_width => k_is)
    (case nKind_align => k_is)
    (case nKind_parts => k_is)
    (case clKind => k_is)
    (case mrKind => rfl)
    (case cadKind => k_is)
    (case crdKind => k_is)
    (case oad => k_is)
    (case ord_ => k_is)
    (case g_Book => k_is)
    (case pgBook => k_is)
    (case hdBook => k_is)
    (case poBook => k_is)
    (case saBook => k_is)
    (case caBook => k_is)
    (case cmBook => k_is)
    (case icBook => k_is)
    (case tyBook => k_is)
    (case mkBook => k_is)
    (case kcBook => k_is)
    (case suBook_NoneType => k_is)
    (case suBook_tuple => k_is)
    (case suBook_str => k_is)
    (case suBook_int => k_is)
    (case suBook_list => k_is)
    (case suBook_bool => k_is)
    (case suBook_dict => k_is)
    (case neBook => k_is)
    (case nBook_kinds => k_is)
    (case nBook_names => k_is)
    (case nBook_parts => k_is)
    (case sfBook => k_is)
    (case sta => k_is)
    (case str_ => k_is)
    (case nrBook => k_is)
    (case ta_NoneType => k_is)
    (case tr_NoneType => k_is)
    (case ta_tuple => k_is)
    (case tr_tuple => k_is)
    (case ta_str => k_is)
    (case tr_str => k_is)
    (case ta_int => k_is)
    (case tr_int => k_is)
    (case ta_list => k_is)
    (case tr_list => k_is)
    (case ta_bool => k_is)
    (case tr_bool => k_is)
    (case ta_dict => k_is)
    (case tr_dict => k_is)
    (case ga_LONGEST_NAME => k_is)
    (case v_LONGEST_NAME => exact ⟨_, rfl⟩)
    (case ga_NAME_LETTERS => k_is)
    (case v_NAME_LETTERS => exact ⟨_, rfl⟩)
    (case ga_GROUPS => k_is)
    (case o_GROUPS => k_is)
    (case v_GROUPS => exact .cons ⟨_, rfl⟩ (.cons ⟨_, rfl⟩ .nil))
    (case ga_ALIGNMENTS => k_is)
    (case o_ALIGNMENTS => k_is)
    (case v_ALIGNMENTS => exact .cons ⟨_, rfl⟩ (.cons ⟨_, rfl⟩ (.cons ⟨_, rfl⟩ (.cons ⟨_, rfl⟩ (.cons ⟨_, rfl⟩ .nil)))))
    (case ga_SIZES => k_is)
    (case o_SIZES => k_is)
    (case v_SIZES => exact .cons ⟨_, rfl⟩ (.cons ⟨_, rfl⟩ (.cons ⟨_, rfl⟩ (.cons ⟨_, rfl⟩ (.cons ⟨_, rfl⟩ .nil)))))
    (case ga_DOUBLE_SIZE => k_is)
    (case v_DOUBLE_SIZE => exact ⟨_, rfl⟩)
    (case ga_LEAST_WIDTH => k_is)
    (case v_LEAST_WIDTH => exact ⟨_, rfl⟩)
    (case ga_LEAST_DOUBLE_WIDTH => k_is)
    (case v_LEAST_DOUBLE_WIDTH => exact ⟨_, rfl⟩)
    (case ga_MOST_KINDS => k_is)
    (case v_MOST_KINDS => exact ⟨_, rfl⟩)
    (case b_ArithmeticError => k_is)
    (case b_LookupError => k_is)
    (case b_ValueError => k_is)
    (case b_abs => k_is)
    (case b_all => k_is)
    (case b_bool => k_is)
    (case b_divmod => k_is)
    (case b_enumerate => k_is)
    (case b_int => k_is)
    (case b_isinstance => k_is)
    (case b_len => k_is)
    (case b_list => k_is)
    (case b_max => k_is)
    (case b_min => k_is)
    (case b_property => k_is)
    (case b_range => k_is)
    (case b_repr => k_is)
    (case b_str => k_is)
    (case b_tuple => k_is)
    (case g_CallError => k_is)
    (case xl_CallError => k_is)
    (case xt_CallError => decide +kernel)
    (case xsa_CallError => k_is)
    (case xex_CallError => k_is)
    (case xty_CallError => k_is)
    (case xkc_CallError => k_is)
    (case xga_CallError => k_is)
    (case xgg_CallError => k_is)
    (case xhd_CallError => k_is)
    (case xic_CallError => k_is)
    (case xv_CallError => k_is)
    (case g_LimitError => k_is)
    (case xl_LimitError => k_is)
    (case xt_LimitError => decide +kernel)
    (case xsa_LimitError => k_is)
    (case xex_LimitError => k_is)
    (case xty_LimitError => k_is)
    (case xkc_LimitError => k_is)
    (case xga_LimitError => k_is)
    (case xgg_LimitError => k_is)
    (case xhd_LimitError => k_is)
    (case xic_LimitError => k_is)
    (case xv_LimitError => k_is)
    (case g_InvalidName => k_is)
    (case xl_InvalidName => k_is)
    (case xt_InvalidName => decide +kernel)
    (case xsa_InvalidName => k_is)
    (case xex_InvalidName => k_is)
    (case xty_InvalidName => k_is)
    (case xkc_InvalidName => k_is)
    (case xga_InvalidName => k_is)
    (case xgg_InvalidName => k_is)
    (case xhd_InvalidName => k_is)
    (case xic_InvalidName => k_is)
    (case xn_InvalidName_value => k_is)
    (case xe_InvalidName_CallError => decide +kernel)
    (case xv_InvalidName => k_is)
    (case g_InvalidKind => k_is)
    (case xl_InvalidKind => k_is)
    (case xt_InvalidKind => decide +kernel)
    (case xsa_InvalidKind => k_is)
    (case xex_InvalidKind => k_is)
    (case xty_InvalidKind => k_is)
    (case xkc_InvalidKind => k_is)
    (case xga_InvalidKind => k_is)
    (case xgg_InvalidKind => k_is)
    (case xhd_InvalidKind => k_is)
    (case xic_InvalidKind => k_is)
    (case xn_InvalidKind_value => k_is)
    (case xe_InvalidKind_CallError => decide +kernel)
    (case xv_InvalidKind => k_is)
    (case g_InvalidBook => k_is)
    (case xl_InvalidBook => k_is)
    (case xt_InvalidBook => decide +kernel)
    (case xsa_InvalidBook => k_is)
    (case xex_InvalidBook => k_is)
    (case xty_InvalidBook => k_is)
    (case xkc_InvalidBook => k_is)
    (case xga_InvalidBook => k_is)
    (case xgg_InvalidBook => k_is)
    (case xhd_InvalidBook => k_is)
    (case xic_InvalidBook => k_is)
    (case xn_InvalidBook_value => k_is)
    (case xe_InvalidBook_CallError => decide +kernel)
    (case xv_InvalidBook => k_is)
    (case g_TooMany => k_is)
    (case xl_TooMany => k_is)
    (case xt_TooMany => decide +kernel)
    (case xsa_TooMany => k_is)
    (case xex_TooMany => k_is)
    (case xty_TooMany => k_is)
    (case xkc_TooMany => k_is)
    (case xga_TooMany => k_is)
    (case xgg_TooMany => k_is)
    (case xhd_TooMany => k_is)
    (case xic_TooMany => k_is)
    (case xn_TooMany_what => k_is)
    (case xn_TooMany_limit => k_is)
    (case xe_TooMany_LimitError => decide +kernel)
    (case xv_TooMany => k_is)
    (case a_is_integer => k_is)
    (case l_is_integer => k_is)
    (case c_is_integer => k_is)
    (case k_is_integer => k_is)
    (case a_is_between => k_is)
    (case l_is_between => k_is)
    (case c_is_between => k_is)
    (case k_is_between => k_is)
    (case a_is_one_of => k_is)
    (case l_is_one_of => k_is)
    (case c_is_one_of => k_is)
    (case k_is_one_of => k_is)
    (case a_is_word_of => k_is)
    (case l_is_word_of => k_is)
    (case c_is_word_of => k_is)
    (case k_is_word_of => k_is)
    (case a_is_name => k_is)
    (case l_is_name => k_is)
    (case c_is_name => k_is)
    (case k_is_name => k_is)
    (case a_Kind_init => k_is)
    (case i_Kind_init => k_is)
    (case l_Kind_init => k_is)
    (case c_Kind_init => k_is)
    (case k_Kind_init => k_is)
    (case tO_Kind => k_is)
    (case vT_Kind => exact .cons ⟨_, rfl⟩ .nil)
    (case kq_Kind_size => k_is)
    (case kr_Kind_size => exact ⟨_, rfl⟩)
    (case kq_Kind_width => k_is)
    (case kr_Kind_width => exact rfl)
    (case kq_Kind_align => k_is)
    (case kr_Kind_align => exact rfl)
    (case a_Kind_name => k_is)
    (case g_Kind_name => k_is)
    (case t_Kind_name => k_is)
    (case r_Kind_name => k_is)
    (case l_Kind_name => k_is)
    (case c_Kind_name => k_is)
    (case k_Kind_name => k_is)
    (case a_Kind_parts => k_is)
    (case i_Kind_parts => k_is)
    (case l_Kind_parts => k_is)
    (case c_Kind_parts => k_is)
    (case k_Kind_parts => k_is)
    (case a_InvalidName_init => k_is)
    (case i_InvalidName_init => k_is)
    (case t_InvalidName_init => k_is)
    (case l_InvalidName_init => k_is)
    (case c_InvalidName_init => k_is)
    (case k_InvalidName_init => k_is)
    (case a_InvalidKind_init => k_is)
    (case i_InvalidKind_init => k_is)
    (case t_InvalidKind_init => k_is)
    (case l_InvalidKind_init => k_is)
    (case c_InvalidKind_init => k_is)
    (case k_InvalidKind_init => k_is)
    (case a_InvalidBook_init => k_is)
    (case i_InvalidBook_init => k_is)
    (case t_InvalidBook_init => k_is)
    (case l_InvalidBook_init => k_is)
    (case c_InvalidBook_init => k_is)
    (case k_InvalidBook_init => k_is)
    (case a_TooMany_init => k_is)
    (case i_TooMany_init => k_is)
    (case t_TooMany_init => k_is)
    (case l_TooMany_init => k_is)
    (case c_TooMany_init => k_is)
    (case k_TooMany_init => k_is)
    (case a_Book_init => k_is)
    (case i_Book_init => k_is)
    (case l_Book_init => k_is)
    (case c_Book_init => k_is)
    (case k_Book_init => k_is)
    (case a_Book_names => k_is)
    (case i_Book_names => k_is)
    (case l_Book_names => k_is)
    (case c_Book_names => k_is)
    (case k_Book_names => k_is)
    (case a_Book_kinds => k_is)
    (case i_Book_kinds => k_is)
    (case l_Book_kinds => k_is)
    (case c_Book_kinds => k_is)
    (case k_Book_kinds => k_is)
    (case a_Book_add => k_is)
    (case i_Book_add => k_is)
    (case l_Book_add => k_is)
    (case c_Book_add => k_is)
    (case k_Book_add => k_is)
    (case a_l_draw => k_is)
    (case l_l_draw => k_is)
    (case c_l_draw => k_is)
    (case k_l_draw => k_is)
    (case a_l_pick => k_is)
    (case l_l_pick => k_is)
    (case c_l_pick => k_is)
    (case k_l_pick => k_is)
    (case a_l_pot => k_is)
    (case l_l_pot => k_is)
    (case c_l_pot => k_is)
    (case k_l_pot => k_is)
    (case a_l_row => k_is)
    (case l_l_row => k_is)
    (case c_l_row => k_is)
    (case k_l_row => k_is)
    (case a_l_kind => k_is)
    (case l_l_kind => k_is)
    (case c_l_kind => k_is)
    (case k_l_kind => k_is)
    (case a_l_named => k_is)
    (case l_l_named => k_is)
    (case c_l_named => k_is)
    (case k_l_named => k_is)
    (case a_l_told => k_is)
    (case l_l_told => k_is)
    (case c_l_told => k_is)
    (case k_l_told => k_is)
    (case a_l_thing => k_is)
    (case l_l_thing => k_is)
    (case c_l_thing => k_is)
    (case k_l_thing => k_is)
    (case a_l_due => k_is)
    (case l_l_due => k_is)
    (case c_l_due => k_is)
    (case k_l_due => k_is)
    (case a_l_at_once => k_is)
    (case l_l_at_once => k_is)
    (case c_l_at_once => k_is)
    (case k_l_at_once => k_is)
    (case a_l_right => k_is)
    (case l_l_right => k_is)
    (case c_l_right => k_is)
    (case k_l_right => k_is)
    (case a_law => k_is)
    (case l_law => k_is)
    (case c_law => k_is)
    (case k_law => k_is)
    (case NE => decide)
    (case xm_CallError_CallError => k_is)
    (case xm_CallError_LimitError => k_is)
    (case xm_CallError_InvalidName => k_is)
    (case xm_CallError_InvalidKind => k_is)
    (case xm_CallError_InvalidBook => k_is)
    (case xm_CallError_TooMany => k_is)
    (case xm_LimitError_CallError => k_is)
    (case xm_LimitError_LimitError => k_is)
    (case xm_LimitError_InvalidName => k_is)
    (case xm_LimitError_InvalidKind => k_is)
    (case xm_LimitError_InvalidBook => k_is)
    (case xm_LimitError_TooMany => k_is)
    (case xm_InvalidName_CallError => k_is)
    (case xm_InvalidName_LimitError => k_is)
    (case xm_InvalidName_InvalidName => k_is)
    (case xm_InvalidName_InvalidKind => k_is)
    (case xm_InvalidName_InvalidBook => k_is)
    (case xm_InvalidName_TooMany => k_is)
    (case xm_InvalidKind_CallError => k_is)
    (case xm_InvalidKind_LimitError => k_is)
    (case xm_InvalidKind_InvalidName => k_is)
    (case xm_InvalidKind_InvalidKind => k_is)
    (case xm_InvalidKind_InvalidBook => k_is)
    (case xm_InvalidKind_TooMany => k_is)
    (case xm_InvalidBook_CallError => k_is)
    (case xm_InvalidBook_LimitError => k_is)
    (case xm_InvalidBook_InvalidName => k_is)
    (case xm_InvalidBook_InvalidKind => k_is)
    (case xm_InvalidBook_InvalidBook => k_is)
    (case xm_InvalidBook_TooMany => k_is)
    (case xm_TooMany_CallError => k_is)
    (case xm_TooMany_LimitError => k_is)
    (case xm_TooMany_InvalidName => k_is)
    (case xm_TooMany_InvalidKind => k_is)
    (case xm_TooMany_InvalidBook => k_is)
    (case xm_TooMany_TooMany => k_is)
    (case nP_P1 => kernel_rfl)
    (case cP_P1 => kernel_rfl)
    (case nP_P2 => kernel_rfl)
    (case cP_P2 => kernel_rfl)
#print axioms PySem.Challenge.cw_unlikecalls_k25_books_refused_holds
