import PyProof.Rows.All
import Wide.All
import OpenK.AllK
import Wide.FinOn
import HandS.ForMost
import HandS.Wide
import HandS.IsInst
import HandS.Defaults
import HandS.Codes
import HandS.Style
import PyProof.ReprRoads
import PyProof.ReprLen
import HandS.Zip
import HandS.NoneIn
import HandS.TupAny
import HandS.WordsExc
import HandS.ExcCtx
import HandS.ForExc
import HandS.FStr
import PyProof.StrOps2
import HandS.Text
import HandS.More
import HandS.Hot
import HandS.HotCalls
import HandS.Comp
import PyProof.Seq
import PyProof.Rows.TupIter
import HandS.ExcIs
import KE.KIsAll
import KE.KExcIs
import HandS.Small
import HandS.RaiseMore
import HandS.Walk
import PySem.Challenge.RW_unlikepairs_k56_format_errors
set_option Elab.async false
set_option linter.all false
set_option maxRecDepth 100000
set_option maxHeartbeats 4000000
namespace UP
open PySem PySem.Spec PyProof.Rows L2

/-! ### a def that keeps a promise, by its name -/
section
variable (P : Program) (w : World) (K : PySem.W.Frag) (mg : Str → Option Value) (base : Heap)
def Has (k : Nat) (x : Str) (ps : List Str) (sp : Sp) : Prop :=
  ∃ f fd, mg x = some (.ref f) ∧ PySem.W.keepIn K (.ref f) = true ∧ Binds K fd ps [] ∧ FnOk P w K mg base CX0 k f fd ps sp
def Df (x : Str) (st : Stmt) : Prop := ∃ f fd, mg x = some (.ref f) ∧ Fun K x x st f fd
end
theorem Df.of {K : PySem.W.Frag} {mg : Str → Option Value} {x : Str} {st : Stmt} {f : Addr} {fd : FuncData} (g : mg x = some (.ref f)) (F : Fun K x x st f fd) : Df K mg x st := ⟨f, fd, g, F⟩
section
variable {P : Program} {w : World} {K : PySem.W.Frag} {mg : Str → Option Value} {base : Heap}
theorem has_of {x : Str} {st : Stmt} {ps N : List Str} {k : Nat} {sp : Sp} (D : Df K mg x st) (S : FnScope N ps (defScope st))
    (hb : ∀ (kV doc pm : Value) (an : Option Addr) (cdv ct : Value) (us : List Value), us.length = ps.length → bindArgs (PySem.W.fnOf x x (defArgs st) (defBody st) (defScope st) .none kV doc pm an cdv ct) ⟨us, []⟩ = pure (ps.zip us))
    (len : ∀ vs H Q E, sp vs H Q E → vs.length = ps.length)
    (body : ∀ (f : Addr) (cdv : Value) (A : Around) (outer : List Env) (s : Shared) (H : Hp) (vs : List V) (Q : VK) (E : XK), Room k (A.deeper (envOfC x (defScope st) s.heap.objs.size f cdv)) → sp vs H Q E →
      ∃ t, PSs (cxOf CX0 P w K mg base N x (defScope st) f cdv A outer s H E).nox (defBody st) t ∧ t { nx := fun _ H' => Q .non H', rt := Q } (start N vs) H) :
    Has P w K mg base (k + 1) x ps sp := by
  obtain ⟨f, fd, g, F⟩ := D
  exact ⟨f, fd, g, F.kp, F.binds hb, F.ok S len fun cdv A outer s H vs Q E hr h => body f cdv A outer s H vs Q E hr h⟩
theorem Has.weak {x : Str} {ps : List Str} {k : Nat} {sp sp' : Sp} (h : Has P w K mg base k x ps sp) (e : sp = sp') : Has P w K mg base k x ps sp' := e ▸ h
end
section
variable {X : Cx}
theorem pe_callH {k : Nat} {x : Str} {ps : List Str} {sp : Sp} {p pos : Pos} {e : Expr} {es : List Expr} {t : TA} (G : Has X.prog X.w X.K X.mg X.base k x ps sp) (hr : Room k X.A) (hg : Gl X x) (ha : PA X (e :: es) t)
    (hdb : (x == ("__debug__" : Str)) = false := by decide) (he : starEach (e :: es) X.env = (false, eval e X.env) :: starEach es X.env := by rfl) (hpl : (backTo pos (starEach es X.env)).any (·.1) = false := by rfl) :
    PE X (.Call (.Name x p) (e :: es) [] pos) (tCall sp [] E0 t) := by
  obtain ⟨f, fd, g, kp, b, F⟩ := G
  exact pe_call F hr hg g kp b .nil pass0 ha hdb he hpl
theorem pe_glI {x : Str} {i : Int} {pos : Pos} (h : ∃ t, X.mg x = some (.int i t)) (hg : Gl X x) (hd : (x == ("__debug__" : Str)) = false := by decide) : PE X (.Name x pos) (tC (.int i)) := by
  obtain ⟨t, h⟩ := h
  exact pe_glob hg h ⟨t, rfl⟩ hd
end

/-! ### heaps -/
theorem same_upd {H : Hp} {p : Addr} {o : HO} (h : H p = none) : Same H (upd H p o) := fun b x e => by
  rw [upd_ne (ne_of_none e h)]
  exact e
/-- all but the object at sp is as it was -/
def But (sp : Addr) (H H' : Hp) : Prop := ∀ b o, b ≠ sp → H b = some o → H' b = some o
theorem Same.but {sp : Addr} {H H' : Hp} (h : Same H H') : But sp H H' := fun b o _ e => h b o e
theorem But.trans {sp : Addr} {H H1 H2 : Hp} (a : But sp H H1) (b : But sp H1 H2) : But sp H H2 := fun c o n e => b c o n (a c o n e)
theorem But.refl {sp : Addr} {H : Hp} : But sp H H := fun _ _ _ e => e
theorem but_upd {sp : Addr} {H : Hp} {o : HO} : But sp H (upd H sp o) := fun b x n e => by
  rw [upd_ne n]
  exact e
theorem small {n : Nat} (h : n ≤ 1000000) : n < sizeLine := Nat.lt_of_le_of_lt h (by decide)
theorem smallE {n : Nat} (h : n ≤ 1000000) : n ≤ sizeLine := Nat.le_of_lt (small h)

/-! ### runs and states -/
abbrev Run := Str × Int
def RunV (H : Hp) (v : V) (r : Run) : Prop := ∃ t, v = .ref t ∧ H t = some (.tup [.str r.1, .int r.2])
def Runs (H : Hp) (a : Addr) (rs : List Run) : Prop := ∃ xs, H a = some (.lst xs) ∧ Paired (RunV H) xs rs
def StV (H : Hp) (v : V) : Option Run → Prop
  | none => v = .non
  | some r => RunV H v r
theorem RunV.same {H H' : Hp} {v : V} {r : Run} (s : Same H H') (h : RunV H v r) : RunV H' v r := by
  obtain ⟨t, e, h⟩ := h
  exact ⟨t, e, s _ _ h⟩
theorem Paired.len {α β : Type} {F : α → β → Prop} : ∀ {l₁ : List α} {l₂ : List β}, Paired F l₁ l₂ → l₁.length = l₂.length
  | _, _, .nil => rfl
  | _, _, .cons _ t => congrArg Nat.succ (Paired.len t)
theorem Paired.at {α β : Type} {F : α → β → Prop} : ∀ {l₁ : List α} {l₂ : List β} {i : Nat} {x : α}, Paired F l₁ l₂ → l₁[i]? = some x → ∃ y, l₂[i]? = some y ∧ F x y
  | _, _, _, _, .nil, h => by simp at h
  | _, _, 0, _, .cons h _, e => by
    simp only [List.getElem?_cons_zero, Option.some.injEq] at e
    subst e
    exact ⟨_, by simp, h⟩
  | _, _, i + 1, _, .cons _ t, e => by
    simp only [List.getElem?_cons_succ] at e ⊢
    exact Paired.at t e
theorem Paired.at' {α β : Type} {F : α → β → Prop} : ∀ {l₁ : List α} {l₂ : List β} {i : Nat} {y : β}, Paired F l₁ l₂ → l₂[i]? = some y → ∃ x, l₁[i]? = some x ∧ F x y
  | _, _, _, _, .nil, h => by simp at h
  | _, _, 0, _, .cons h _, e => by
    simp only [List.getElem?_cons_zero, Option.some.injEq] at e
    subst e
    exact ⟨_, by simp, h⟩
  | _, _, i + 1, _, .cons _ t, e => by
    simp only [List.getElem?_cons_succ] at e ⊢
    exact Paired.at' t e
theorem Paired.imp {α β : Type} {F G : α → β → Prop} (f : ∀ a b, F a b → G a b) : ∀ {l₁ : List α} {l₂ : List β}, Paired F l₁ l₂ → Paired G l₁ l₂
  | _, _, .nil => .nil
  | _, _, .cons h t => .cons (f _ _ h) (Paired.imp f t)
theorem Paired.app {α β : Type} {F : α → β → Prop} : ∀ {l₁ m₁ : List α} {l₂ m₂ : List β}, Paired F l₁ l₂ → Paired F m₁ m₂ → Paired F (l₁ ++ m₁) (l₂ ++ m₂)
  | _, _, _, _, .nil, h => h
  | _, _, _, _, .cons h t, k => .cons h (Paired.app t k)
theorem Paired.dropp {α β : Type} {F : α → β → Prop} : ∀ {l₁ : List α} {l₂ : List β} (n : Nat), Paired F l₁ l₂ → Paired F (l₁.drop n) (l₂.drop n)
  | _, _, 0, h => h
  | _, _, n + 1, .nil => .nil
  | _, _, n + 1, .cons _ t => by
    simp only [List.drop_succ_cons]
    exact Paired.dropp n t
theorem Paired.takep {α β : Type} {F : α → β → Prop} : ∀ {l₁ : List α} {l₂ : List β} (n : Nat), Paired F l₁ l₂ → Paired F (l₁.take n) (l₂.take n)
  | _, _, 0, h => by simp only [List.take_zero]; exact .nil
  | _, _, n + 1, .nil => .nil
  | _, _, n + 1, .cons h t => by
    simp only [List.take_succ_cons]
    exact .cons h (Paired.takep n t)
theorem Runs.same {H H' : Hp} {a : Addr} {rs : List Run} (s : Same H H') (h : Runs H a rs) : Runs H' a rs := by
  obtain ⟨xs, e, p⟩ := h
  exact ⟨xs, s _ _ e, Paired.imp (fun _ _ => RunV.same s) p⟩
theorem StV.same {H H' : Hp} {v : V} {st : Option Run} (s : Same H H') (h : StV H v st) : StV H' v st := by
  cases st with
  | none => exact h
  | some r => exact RunV.same s h
/-- the spring: a list of three ints -/
def Spr (H : Hp) (sp : Addr) : Prop := ∃ d s c : Int, H sp = some (.lst [.int d, .int s, .int c]) ∧ 0 ≤ d ∧ d.natAbs < 2 ^ 20000 ∧ 0 ≤ s ∧ s < 2305843009213693951
theorem RunV.but {H H' : Hp} {sp : Addr} {v : V} {r : Run} (z : Spr H sp) (s : But sp H H') (h : RunV H v r) : RunV H' v r := by
  obtain ⟨t, e, h⟩ := h
  obtain ⟨_, _, _, hs, _⟩ := z
  exact ⟨t, e, s _ _ (ne_of h hs (by intro q; cases q)) h⟩
theorem Runs.ne {H : Hp} {sp a : Addr} {rs : List Run} (z : Spr H sp) (h : Runs H a rs) : a ≠ sp := by
  obtain ⟨xs, e, p⟩ := h
  obtain ⟨d, s, c, hs, _⟩ := z
  refine ne_of e hs fun q => ?_
  have q := HO.lst.inj q
  subst q
  cases p with
  | cons h _ =>
    obtain ⟨t, e, _⟩ := h
    cases e
theorem Runs.but {H H' : Hp} {sp a : Addr} {rs : List Run} (z : Spr H sp) (s : But sp H H') (h : Runs H a rs) : Runs H' a rs := by
  have n := Runs.ne z h
  obtain ⟨xs, e, p⟩ := h
  exact ⟨xs, s _ _ n e, Paired.imp (fun _ _ => RunV.but z s) p⟩
theorem StV.but {H H' : Hp} {sp : Addr} {v : V} {st : Option Run} (z : Spr H sp) (s : But sp H H') (h : StV H v st) : StV H' v st := by
  cases st with
  | none => exact h
  | some r => exact RunV.but z s h
theorem Spr.same {H H' : Hp} {sp : Addr} (z : Spr H sp) (s : Same H H') : Spr H' sp := by
  obtain ⟨d, e, c, hs, r⟩ := z
  exact ⟨d, e, c, s _ _ hs, r⟩
def KindOk (s : Str) : Prop := 1 ≤ s.length ∧ s.length ≤ 8 ∧ ∀ c ∈ s.cps.toList, 97 ≤ c ∧ c ≤ 122
def RunOk (r : Run) : Prop := KindOk r.1 ∧ 1 ≤ r.2 ∧ r.2 ≤ 1000000000000000000000000000000
def Alt (rs : List Run) : Prop := ∀ (i : Nat) (x y : Run), rs[i]? = some x → rs[i + 1]? = some y → x.1 ≠ y.1
def SeqOk (rs : List Run) : Prop := rs.length ≤ 400 ∧ (∀ r ∈ rs, RunOk r) ∧ Alt rs
end UP

set_option Elab.async false
set_option linter.all false
set_option maxRecDepth 100000
set_option maxHeartbeats 4000000
namespace UP
open PySem PySem.Spec PyProof.Rows L2
/-! ### repr of plain data, where no other repr is under way -/
def rRepr (K : PySem.W.Frag) : List V → Hp → VK → Prop := fun xs H Q => ∃ (a : Addr) (d : PyData), xs = [.ref a] ∧ Dp K H (.ref a) d ∧ d.showable = true ∧ SeqAt.shaped d = true ∧ d.shown.length ≤ sizeLine ∧ Q (.str d.shown) H
theorem call_reprD {X : Cx} (hg : X.A.guards = some []) (hu : X.A.units + 70 < cLine) : CallR X (.builtin "repr") (rRepr X.K) := by
  intro pins s σ H xs us Q I r h
  obtain ⟨a, d, rfl, dp, sh, sp, sz, q⟩ := h
  obtain ⟨u, rfl, ru⟩ := vals1 r
  cases (show u = Value.ref a from ru)
  obtain ⟨as, rd⟩ := Dp.reads I d (.ref a) (.ref a) dp rfl
  have dd := SeqAt.depth_of_shaped sp
  refine repr_of_reads' rd sh (PyData.noDict_hsm (PyData.hasDict_of_canLay d (SeqAt.canLay_of_shaped sp))) hg (by omega) (fun _ _ e => e) (fun h' u tk hk => ?_) sz
  exact ⟨.str d.shown, H, I.kept (t' := tk) hk, ⟨u, rfl⟩, q⟩
/-! ### the law's own call, around it nothing -/
structure FnC (P : Program) (w : World) (K : PySem.W.Frag) (mg : Str → Option Value) (base : Heap) (f : Addr) (fd : FuncData) (ps : List Str) (sp : Sp) : Prop where
  go : ∀ (out : List Env) (s : Shared) (H : Hp) (args : Args) (us : List Value) (vs : List V) (Q : VK) (E : XK), Env0 P w K mg base callerA out s H → BindsTo s fd args (ps.zip us) → Vals vs us → sp vs H Q E →
    codeAny (model P w) callerA (.call (.ref f) args) (CR CX0 out P w H s Q E) s
theorem callerA_room : Room 8 callerA := ⟨rfl, by decide, by decide⟩
section
variable {P : Program} {w : World} {K : PySem.W.Frag} {mg : Str → Option Value} {base : Heap}
theorem fnC_of {x : Str} {st : Stmt} {f : Addr} {fd : FuncData} {ps N : List Str} {sp : Sp} (F : Fun K x x st f fd) (S : FnScope N ps (defScope st)) (len : ∀ vs H Q E, sp vs H Q E → vs.length = ps.length)
    (body : ∀ (cdv : Value) (out : List Env) (s : Shared) (H : Hp) (vs : List V) (Q : VK) (E : XK), Room 7 (callerA.deeper (envOfC x (defScope st) s.heap.objs.size f cdv)) → sp vs H Q E →
      ∃ t, PSs (cxOf CX0 P w K mg base N x (defScope st) f cdv callerA out s H E).nox (defBody st) t ∧ t { nx := fun _ H' => Q .non H', rt := Q } (start N vs) H) : FnC P w K mg base f fd ps sp := by
  obtain ⟨oc, od, kV, doc, pm, an, cdv, ct, osl, rfl, lk, hcd⟩ := F.ex
  refine ⟨fun out s H args us vs Q E e0 hb rv hsp => ?_⟩
  have inS : K.In s.heap := e0.mod.kin.keeps fun b o z => (e0.bs b o z).1
  have noL : s.heap.NoLimit := e0.mod.nolimit.keeps fun b o z => (e0.bs b o z).1
  have kinds : ∀ y ∈ ps.zip us, (defScope st).names.lookup y.1 = some .local ∨ ((defScope st).names.lookup y.1 = some .cell ∧ ((cellsFrom (s.heap.objs.size + 1) (defScope st).names []).lookup y.1).isSome = true) := by
    intro y hy
    rcases S.par y.1 (List.of_mem_zip (a := y.1) (b := y.2) hy).1 with z | z
    · exact Or.inl z
    · exact Or.inr ⟨z, PySem.W.cellsFrom_some _ _ _ (Or.inl z)⟩
  refine codeAny_call_function callerA_room.depth (inS _ _ lk) rfl S.co S.gen rfl (PySem.W.codeRec_of inS hcd) (hb _ _ _ _ ?_)
  refine wpAny_newFunctionEnv_cells S.kind kinds fun env he s1 inC => ?_
  subst he
  refine ⟨noL.keeps inC.toInCall.keep, codeAny_func ?_⟩
  obtain ⟨t, ht0, hq⟩ := body cdv out s H vs Q E (callerA_room.deeper _) hsp
  have ht := PSs.nox ht0
  have I0 : Inv (cxOf CX0 P w K mg base N x (defScope st) f cdv callerA out s H E) [] (start N vs) H s1 := inv_start S rfl e0 (len _ _ _ _ hsp) rv inC
  refine wpAny_mono (ht.run [] s1 (start N vs) H _ I0 hq) (fun fl s2 h2 => ?_) fun _ _ z => z
  cases fl with
  | next =>
    obtain ⟨σ2, H2, J, q2⟩ := h2
    exact ⟨V.non, H2, J.os, J.bare, J.base, J.hok, rfl, q2⟩
  | ret u =>
    obtain ⟨v, σ2, H2, J, rv2, q2⟩ := h2
    exact ⟨v, H2, J.os, J.bare, J.base, J.hok, rv2, q2⟩
  | brk =>
    obtain ⟨_, _, _, z⟩ := h2
    exact z.elim
  | cont =>
    obtain ⟨_, _, _, z⟩ := h2
    exact z.elim
end
/-- the heap that holds the script alone, locked -/
def oneH (a : Addr) (o : Obj) (xs : List V) : Hp := fun b => if b = a then some (.frz o (.lst xs)) else none
theorem run_law {P : Program} {w : World} {K : PySem.W.Frag} {mg mb : Str → Option Value} {fa a : Addr} {fd : FuncData} {x : Str} {sp : Sp} {s : Shared} {vs : List Value} {ns : List Int}
    (kx : K.In s.heap) (gns : s.heap.Ns mainGlobals mg) (bns : s.heap.Ns builtinsNs mb) (bb : ∀ y : Str, y ≠ "__name__" → mb y = bootBuiltins y) (nl : s.heap.NoLimit) (gens : s.gens = #[])
    (ob : s.heap.get? a = some { cls := .type "list", data := .seq vs.toArray }) (hin : IntsAre vs ns) (len : ns.length ≤ sizeLine) (F : ∀ base : Heap, K.In base → base.Ns mainGlobals mg → FnC P w K mg base fa fd [x] sp)
    (bind : ∀ (s : Shared) (u : Value), BindsTo s fd ⟨[u], []⟩ [(x, u)]) (hsp : ∀ H : Hp, SqL K H a (ns.map V.int) → sp [.ref a] H (fun v _ => v = .bl true) fun _ _ _ => False) :
    codeAny (model P w) callerA (.call (.ref fa) ⟨[.ref a], []⟩) (fun r s' => r = .ok (.ret (.bool true)) ∧ OldK s.heap s'.heap ∧ s'.os = s.os ∧ AllBare s'.gens) s := by
  have rel := vals_ints hin
  have step : ∀ H : Hp, (H = (fun _ => none) ∨ (H = oneH a { cls := .type "list", data := .seq vs.toArray } (ns.map V.int) ∧ K.lookup a = none)) → SqL K H a (ns.map V.int) → HOk P w H s.heap →
      codeAny (model P w) callerA (.call (.ref fa) ⟨[.ref a], []⟩) (fun r s' => r = .ok (.ret (.bool true)) ∧ OldK s.heap s'.heap ∧ s'.os = s.os ∧ AllBare s'.gens) s := by
    intro H hH hS hok
    have only : ∀ b u, H b = some u → b = a ∧ u = .frz { cls := .type "list", data := .seq vs.toArray } (.lst (ns.map V.int)) ∧ K.lookup a = none := by
      intro b u e
      rcases hH with z | ⟨z, z2⟩
      · rw [z] at e
        cases e
      · rw [z] at e
        by_cases hb : b = a
        · have e := (if_pos hb).symm.trans e
          cases e
          exact ⟨hb, rfl, z2⟩
        · have e := (if_neg hb).symm.trans e
          cases e
    have free : ∀ {b : Addr} {o : Obj}, s.heap.get? b = some o → (b = a → False) → (hidT s.heap H).get? b = some o := by
      intro b o e n
      refine hidT_get e ?_
      cases q : H b with
      | none => rfl
      | some u => exact (n (only b u q).1).elim
    have nss : ∀ {b : Addr} {m : Str → Option Value}, s.heap.Ns b m → (hidT s.heap H).Ns b m := by
      intro b m ⟨o, es, ep, e, d, r⟩
      refine ⟨o, es, ep, free e fun z => ?_, d, r⟩
      subst z
      rw [ob] at e
      cases e
      cases d
    have kb : K.In (hidT s.heap H) := by
      intro b o e
      refine hidT_get (kx b o e) ?_
      cases q : H b with
      | none => rfl
      | some u =>
        obtain ⟨z1, _, z2⟩ := only b u q
        rw [z1, z2] at e
        cases e
    have md : Mod K mg (hidT s.heap H) := ⟨kb, nss gns, ⟨mb, nss bns, bb⟩, by obtain ⟨mc, h1, h2⟩ := nl; exact ⟨mc, nss h1, h2⟩⟩
    have env : Env0 P w K mg (hidT s.heap H) callerA [] s H := ⟨rfl, md, fun b o e => of_hidT e, Nat.le_of_eq (hidT_size _ _), trivial, (fun b hb => by cases hb), hok, .of_eq gens⟩
    refine codeAny_mono ((F _ kb (nss gns)).go [] s H ⟨[.ref a], []⟩ [.ref a] [.ref a] _ _ env (bind s (.ref a)) (.cons rfl .nil) (hsp H hS)) fun r s' h => ?_
    cases r with
    | error e => exact h.elim
    | ok fl =>
      cases fl with
      | next => exact h.elim
      | brk => exact h.elim
      | cont => exact h.elim
      | ret u =>
        obtain ⟨v, H', o1, o2, un, hok', rv, q⟩ := h
        have q : v = .bl true := q
        subst q
        cases (show u = Value.bool true from rv)
        refine ⟨rfl, OldK.of_keep fun b o e => ?_, o1, o2⟩
        cases q : H b with
        | none => exact un.keep b o e q (fun z => by cases z) (fun z => by cases z)
        | some u =>
          obtain ⟨_, z, _⟩ := only b u q
          subst z
          obtain ⟨e1, _⟩ := hok b _ q
          obtain ⟨e2, _⟩ := hok' b _ (un.frzs b _ _ q)
          rw [e] at e1
          cases e1
          exact e2
  cases hk : K.lookup a with
  | some o =>
    have e := kx a o hk
    rw [ob] at e
    cases e
    refine step (fun _ => none) (.inl rfl) (.inr ⟨_, vs.toArray, _, hk, rfl, rfl, rfl, ?_, by simpa using rel⟩) fun b u z => by cases z
    rw [List.size_toArray, hin.length]
    exact len
  | none =>
    have at_a : oneH a { cls := .type "list", data := .seq vs.toArray } (ns.map V.int) a = some (.frz { cls := .type "list", data := .seq vs.toArray } (.lst (ns.map V.int))) := if_pos rfl
    refine step _ (.inr ⟨rfl, hk⟩) (.inl (.inr ⟨_, at_a⟩)) fun b u z => ?_
    by_cases hb : b = a
    · subst hb
      rw [at_a] at z
      cases z
      exact ⟨ob, by rw [List.length_map]; exact len, vs, _, rel, ob⟩
    · have z := (if_neg hb).symm.trans z
      cases z
theorem walkC {l : PySem.W.OpenLaw} {n : Nat} {q : Program} {loose : List Str} {XP : (Str → Option Value) → Heap → Prop} {YP : World → Heap → Prop} {d : DefRec} {K : Params → PySem.W.Frag} {sp : World → Sp} {x : Str}
    (hn : l.most = some n) (n2 : n ≤ sizeLine) (df : d.params.defaults = []) (hY : ∀ (w : World) (h : Heap), YP w h → (K w.params).In h)
    (F : ∀ (w : World) (mg : Str → Option Value) (fa : Addr) (h : Heap), (K w.params).In h → h.Ns mainGlobals mg → mg d.name = some (.ref fa) →
      ∃ fd : FuncData, (∀ (s : Shared) (u : Value), BindsTo s fd ⟨[u], []⟩ [(x, u)]) ∧ ∀ base : Heap, (K w.params).In base → base.Ns mainGlobals mg → FnC l.prog w (K w.params) mg base fa fd [x] (sp w))
    (hsp : ∀ (w : World) (H : Hp) (a : Addr) (ns : List Int), ns.length ≤ n → SqL (K w.params) H a (ns.map V.int) → sp w [.ref a] H (fun v _ => v = .bl true) fun _ _ _ => False) :
    PySem.W.WalkO q loose XP YP l.row.toRowW d [] (fun f vs => PySem.call f vs) := by
  refine Att.attach_call hn df fun w s₀ s mg mb fa o pm cd doc a vs ns G Y ho hd hcd hmg hobj hints hlen hg => ?_
  have kx := hY w _ Y
  obtain ⟨fd, hb, hF⟩ := F w mg fa _ kx G.T.g hmg
  exact run_law kx G.T.g G.T.b G.T.builtins G.T.nolimit hg hobj hints (Nat.le_trans hlen n2) hF hb fun H hS => hsp w H a ns hlen hS
end UP

set_option Elab.async false
set_option linter.all false
set_option maxRecDepth 100000
set_option maxHeartbeats 4000000
namespace UP
open PySem PySem.Spec PyProof.Rows L2
/-! ### lists or tuples -/
def Sq2 (H : Hp) (a : Addr) (xs : List V) : Prop := H a = some (.lst xs) ∨ H a = some (.tup xs)
theorem Sq2.same {H H' : Hp} {a : Addr} {xs : List V} (s : Same H H') (h : Sq2 H a xs) : Sq2 H' a xs := h.elim (fun z => .inl (s _ _ z)) (fun z => .inr (s _ _ z))
/-- a walk over the items xs, from the heap H on -/
structure Wk (J : It) (H : Hp) (xs : List V) : Prop where
  go : ∀ i H', Same H H' → i < xs.length → J.go i H'
  stop : ∀ H', Same H H' → J.stop xs.length H'
  yld : ∀ i x H' H'', Same H H' → J.yld i H' x H'' → H'' = H' ∧ xs[i]? = some x
theorem wk_list {K : PySem.W.Frag} {H : Hp} {a : Addr} {xs : List V} (h : H a = some (.lst xs)) : Wk (Itl K a) H xs :=
  ⟨fun i H' s hi => ⟨xs, xs[i], .of (s _ _ h), List.getElem?_eq_getElem hi⟩, fun H' s => ⟨xs, .of (s _ _ h), Nat.le_refl _⟩, fun i x H' H'' s y => ⟨y.1, y.2 xs (.of (s _ _ h))⟩⟩
theorem wk_tup {K : PySem.W.Frag} {H : Hp} {a : Addr} {xs : List V} (h : H a = some (.tup xs)) : Wk (Itt K a) H xs :=
  ⟨fun i H' s hi => ⟨xs, xs[i], .of (s _ _ h), List.getElem?_eq_getElem hi⟩, fun H' s => ⟨xs, .of (s _ _ h), Nat.le_refl _⟩, fun i x H' H'' s y => ⟨y.1, y.2 xs (.of (s _ _ h))⟩⟩
def iSeqV (i : Nat) : TI := fun σ H R => ∃ a xs, σ[i]? = some (some (.ref a)) ∧ Sq2 H a xs ∧ ∀ J, Wk J H xs → R J H
section
variable {X : Cx}
theorem pi_seqV (i : Nat) {x : Str} {pos : Pos} {tg : Expr} (hN : X.N[i]? = some x := by rfl) (hv : Vis X.env.scope x := by first | exact Or.inl rfl | exact Or.inr (Or.inl rfl) | exact Or.inr (Or.inr rfl)) (hd : (x == ("__debug__" : Str)) = false := by decide)
    (hc : (x == ("__classdict__" : Str)) = false := by decide) : PI X tg (.Name x pos) (iSeqV i) := by
  refine ⟨fun pins s σ H R I hw => ?_⟩
  obtain ⟨a, xs, e, h, k⟩ := hw
  rcases h with h | h
  · exact (pi_list (pe_var hN hv hd hc)).run pins s σ H R I ⟨_, e, a, rfl, ⟨xs, .of h⟩, k _ (wk_list h)⟩
  · exact (pi_tup (pe_var hN hv hd hc)).run pins s σ H R I ⟨_, e, a, rfl, ⟨xs, .of h⟩, k _ (wk_tup h)⟩
def gAny (n : Nat) (t : TGs) : TG := fun v σ H Q => ∃ a xs, v = .ref a ∧ Sq2 H a xs ∧ xs.length = n ∧ t xs σ H Q
theorem pg_any {es : List Expr} {k n : Nat} {t : TGs} {pos : Pos} (hc : X.calm = true) (h : PGs X es t) (hn : (assignEach es X.env).length = n := by rfl) (hst : (assignEach es X.env).findIdx? (fun z => z.1) = none := by rfl) : PG X (.Tuple es k pos) (gAny n t) := by
  refine ⟨fun pins s σ H v u Q I r hw => ?_⟩
  obtain ⟨a, xs, e, hx, hl, hw⟩ := hw
  rcases hx with z | z
  · exact (pg_unl hc h hn hst).run pins s σ H v u Q I r ⟨a, xs, e, .of z, hl, hw⟩
  · exact (pg_tup hc h hn hst).run pins s σ H v u Q I r ⟨a, xs, e, .of z, hl, hw⟩
/-- zip(x, x[1:]) -/
structure WkZ (J : It) (H : Hp) (xs : List V) : Prop where
  go : ∀ i H', Same H H' → i + 1 < xs.length → J.go i H'
  stop : ∀ H', Same H H' → J.stop (xs.length - 1) H'
  yld : ∀ i x H' H'', Same H H' → J.yld i H' x H'' → ∃ T x1 x2, x = .ref T ∧ H' T = none ∧ H'' = upd H' T (.tup [x1, x2]) ∧ xs[i]? = some x1 ∧ (i + 1 < xs.length → xs[i + 1]? = some x2)
def iZip1 (i : Nat) : TI := fun σ H R => ∃ a xs, σ[i]? = some (some (.ref a)) ∧ Sq2 H a xs ∧ ∀ J H', Same H H' → WkZ J H' xs → R J H'
theorem cutt_one (xs : List V) : cutV xs (some 1) none = xs.drop 1 := by
  have e : HT.sIx xs.length 0 (some 1) = min 1 xs.length := HT.sIx_nat xs.length 0 1
  unfold cutV
  rw [e, HT.sIx_none]
  cases xs with
  | nil => rfl
  | cons x r =>
    have e1 : min 1 (x :: r).length = 1 := by simp only [List.length_cons]; omega
    rw [e1]
    simp
theorem pi_zip1 {i : Nat} {tg it : Expr} {tl th : TO} (h : PI X tg it (RZ.iZipA X.K (tCons (tVar i) (tCons (tSl (fun x lo hi H Q => rSlL X.K x lo hi H Q ∨ rSlA X.K x lo hi H Q) (tVar i) tl th) tNil))))
    (h1 : ∀ (σ : L2.St) (H : Hp) (Q : Option Int → Hp → Prop), Q (some 1) H → tl σ H Q) (h2 : ∀ (σ : L2.St) (H : Hp) (Q : Option Int → Hp → Prop), Q none H → th σ H Q) : PI X tg it (iZip1 i) := by
  refine ⟨fun pins s σ H R I hw => h.run pins s σ H R I ?_⟩
  obtain ⟨a, xs, e, hx, k⟩ := hw
  refine ⟨_, e, _, e, h1 σ H _ (h2 σ H _ ?_)⟩
  have gn : ∀ j : Nat, (xs.drop 1)[j]? = xs[j + 1]? := fun j => by rw [List.getElem?_drop, Nat.add_comm 1 j]
  rcases hx with hx | hx
  · refine .inl ⟨a, xs, rfl, .of hx, fun c nc => ?_⟩
    have sc : Same H (upd H c (.lst (cutV xs (some 1) none))) := fun b o z => by rw [upd_ne (ne_of_none z nc)]; exact z
    have hc : (upd H c (.lst (cutV xs (some 1) none))) c = some (.lst (xs.drop 1)) := by rw [upd_same, cutt_one]
    refine ⟨a, c, xs, xs.drop 1, rfl, .inl ⟨.of (sc _ _ hx), .of hc, k _ _ sc ⟨fun j H' sj hj => ?_, fun H' sj => ?_, fun j x H' H'' sj y => ?_⟩⟩⟩
    · exact ⟨xs, xs.drop 1, xs[j], xs[j + 1], .of (sj _ _ (sc _ _ hx)), .of (sj _ _ hc), List.getElem?_eq_getElem (by omega), by rw [gn]; exact List.getElem?_eq_getElem hj⟩
    · exact ⟨xs, xs.drop 1, .of (sj _ _ (sc _ _ hx)), .of (sj _ _ hc), .inr (by rw [List.length_drop]; exact Nat.le_refl _)⟩
    · obtain ⟨T, x1, x2, e1, e2, e3, f1, f2⟩ := y
      exact ⟨T, x1, x2, e1, e2, e3, f1 xs (.of (sj _ _ (sc _ _ hx))), fun _ => by rw [← gn]; exact f2 _ (.of (sj _ _ hc))⟩
  · refine .inr ⟨a, xs, rfl, .of hx, fun z => ?_, fun z c nc => ?_⟩
    · have lz : xs.length = 0 := by
        have z1 := z.1
        rw [show HT.sIx xs.length 0 (some 1) = min 1 xs.length from HT.sIx_nat xs.length 0 1] at z1
        omega
      refine ⟨a, a, xs, xs, rfl, .inr ⟨.of hx, .of hx, k _ _ (Same.refl _) ⟨fun j H' sj hj => by omega, fun H' sj => ⟨xs, xs, .of (sj _ _ hx), .of (sj _ _ hx), .inl (by omega)⟩, fun j x H' H'' sj y => ?_⟩⟩⟩
      obtain ⟨T, x1, x2, e1, e2, e3, f1, f2⟩ := y
      exact ⟨T, x1, x2, e1, e2, e3, f1 xs (.of (sj _ _ hx)), fun hj => by omega⟩
    · have sc : Same H (upd H c (.tup (cutV xs (some 1) none))) := fun b o z => by rw [upd_ne (ne_of_none z nc)]; exact z
      have hc : (upd H c (.tup (cutV xs (some 1) none))) c = some (.tup (xs.drop 1)) := by rw [upd_same, cutt_one]
      refine ⟨a, c, xs, xs.drop 1, rfl, .inr ⟨.of (sc _ _ hx), .of hc, k _ _ sc ⟨fun j H' sj hj => ?_, fun H' sj => ?_, fun j x H' H'' sj y => ?_⟩⟩⟩
      · exact ⟨xs, xs.drop 1, xs[j], xs[j + 1], .of (sj _ _ (sc _ _ hx)), .of (sj _ _ hc), List.getElem?_eq_getElem (by omega), by rw [gn]; exact List.getElem?_eq_getElem hj⟩
      · exact ⟨xs, xs.drop 1, .of (sj _ _ (sc _ _ hx)), .of (sj _ _ hc), .inr (by rw [List.length_drop]; exact Nat.le_refl _)⟩
      · obtain ⟨T, x1, x2, e1, e2, e3, f1, f2⟩ := y
        exact ⟨T, x1, x2, e1, e2, e3, f1 xs (.of (sj _ _ (sc _ _ hx))), fun _ => by rw [← gn]; exact f2 _ (.of (sj _ _ hc))⟩
end
/-! ### runs and states, dressed -/
def RunG (H : Hp) (v : V) (r : Run) : Prop := ∃ t, v = .ref t ∧ Sq2 H t [.str r.1, .int r.2]
def RunsG (H : Hp) (v : V) (rs : List Run) : Prop := ∃ a xs, v = .ref a ∧ Sq2 H a xs ∧ Paired (RunG H) xs rs
def StG (H : Hp) (v : V) : Option Run → Prop
  | none => v = .non
  | some r => RunG H v r
theorem RunG.same {H H' : Hp} {v : V} {r : Run} (s : Same H H') (h : RunG H v r) : RunG H' v r := by
  obtain ⟨t, e, h⟩ := h
  exact ⟨t, e, h.same s⟩
theorem RunsG.same {H H' : Hp} {v : V} {rs : List Run} (s : Same H H') (h : RunsG H v rs) : RunsG H' v rs := by
  obtain ⟨a, xs, e, hx, p⟩ := h
  exact ⟨a, xs, e, hx.same s, Paired.imp (fun _ _ => RunG.same s) p⟩
theorem StG.same {H H' : Hp} {v : V} {st : Option Run} (s : Same H H') (h : StG H v st) : StG H' v st := by
  cases st with
  | none => exact h
  | some r => exact RunG.same s h
theorem RunV.dress {H : Hp} {v : V} {r : Run} (h : RunV H v r) : RunG H v r := by
  obtain ⟨t, e, h⟩ := h
  exact ⟨t, e, .inr h⟩
theorem Runs.dress {H : Hp} {a : Addr} {rs : List Run} (h : Runs H a rs) : RunsG H (.ref a) rs := by
  obtain ⟨xs, hx, p⟩ := h
  exact ⟨a, xs, rfl, .inl hx, Paired.imp (fun _ _ => RunV.dress) p⟩
theorem StV.dress {H : Hp} {v : V} {st : Option Run} (h : StV H v st) : StG H v st := by
  cases st with
  | none => exact h
  | some r => exact RunV.dress h
theorem Sq2.but {H H' : Hp} {sp a : Addr} {xs : List V} (z : Spr H sp) (s : But sp H H') (h : Sq2 H a xs) (n : ∀ d e f, xs ≠ [.int d, .int e, .int f]) : Sq2 H' a xs := by
  obtain ⟨d, e, f, hs, _⟩ := z
  rcases h with h | h
  · exact .inl (s _ _ (ne_of h hs fun q => n d e f (HO.lst.inj q)) h)
  · exact .inr (s _ _ (ne_of h hs fun q => by cases q) h)
theorem RunG.but {H H' : Hp} {sp : Addr} {v : V} {r : Run} (z : Spr H sp) (s : But sp H H') (h : RunG H v r) : RunG H' v r := by
  obtain ⟨t, e, h⟩ := h
  exact ⟨t, e, h.but z s fun _ _ _ q => by cases q⟩
theorem RunsG.but {H H' : Hp} {sp : Addr} {v : V} {rs : List Run} (z : Spr H sp) (s : But sp H H') (h : RunsG H v rs) : RunsG H' v rs := by
  obtain ⟨a, xs, e, hx, p⟩ := h
  refine ⟨a, xs, e, hx.but z s fun d _ _ q => ?_, Paired.imp (fun _ _ => RunG.but z s) p⟩
  subst q
  cases p with
  | cons h _ =>
    obtain ⟨_, e, _⟩ := h
    cases e
theorem StG.but {H H' : Hp} {sp : Addr} {v : V} {st : Option Run} (z : Spr H sp) (s : But sp H H') (h : StG H v st) : StG H' v st := by
  cases st with
  | none => exact h
  | some r => exact RunG.but z s h
end UP

set_option Elab.async false
set_option linter.all false
set_option maxRecDepth 100000
set_option maxHeartbeats 4000000
namespace UP
open PySem PySem.Spec PyProof.Rows L2
section
variable {P : Program} {w : World} {K : PySem.W.Frag} {mg : Str → Option Value} {base : Heap}
/-- a def that may raise an exception whose context is None -/
theorem okXN {x qual : Str} {st : Stmt} {f : Addr} {fd : FuncData} {N ps : List Str} {k : Nat} {sp : Sp} (F : Fun K x qual st f fd) (S : FnScope N ps (defScope st)) (len : ∀ vs H Q E, sp vs H Q E → vs.length = ps.length)
    (body : ∀ (cdv : Value) (A : Around) (outer : List Env) (s : Shared) (H : Hp) (vs : List V) (Q : VK) (E : XK), Room k (A.deeper (envOfC qual (defScope st) s.heap.objs.size f cdv)) → sp vs H Q E →
      ∃ t, PSs (cxOf (L2N.CX P w) P w K mg base N qual (defScope st) f cdv A outer s H E) (defBody st) t ∧ t { nx := fun _ H' => Q .non H', rt := Q } (start N vs) H) : FnOk P w K mg base (L2N.CX P w) (k + 1) f fd ps sp := by
  obtain ⟨oc, od, kV, doc, pm, an, cdv, ct, osl, rfl, lk, hcd⟩ := F.ex
  exact fn_of lk hcd S len fun A outer s H vs Q E hr hsp => body cdv A outer s H vs Q E hr hsp
end
end UP

set_option Elab.async false
set_option linter.all false
set_option maxRecDepth 100000
set_option maxHeartbeats 4000000
namespace UP
open PySem PySem.Spec PyProof.Rows L2
def topS (i : Nat) : Stmt := PySem.Challenge.pw_unlikepairs_k56_format_errors.main.body.getD i (.Pass ⟨0, 0, 0, 0⟩)
structure Tx (mg : Str → Option Value) : Prop where
  n_isinstance : mg "isinstance" = none
  n_int : mg "int" = none
  n_bool : mg "bool" = none
  n_str : mg "str" = none
  n_list : mg "list" = none
  n_tuple : mg "tuple" = none
  n_len : mg "len" = none
  n_all : mg "all" = none
  n_zip : mg "zip" = none
  n_sum : mg "sum" = none
  n_min : mg "min" = none
  n_max : mg "max" = none
  n_abs : mg "abs" = none
  n_range : mg "range" = none
  n_repr : mg "repr" = none
  n_enumerate : mg "enumerate" = none
  n_any : mg "any" = none
  n_dict : mg "dict" = none
  n_sorted : mg "sorted" = none
  n_set : mg "set" = none
  n_reversed : mg "reversed" = none
  n_ValueError : mg "ValueError" = none
  n_ord : mg "ord" = none
  c_MAX_LETTERS : ∃ t, mg "MAX_LETTERS" = some (.int 8 t)
  c_MAX_RUNS : ∃ t, mg "MAX_RUNS" = some (.int 400 t)
  c_MAX_COUNT : ∃ t, mg "MAX_COUNT" = some (.int 1000000000000000000000000000000 t)
  c_MAX_ENTRIES : ∃ t, mg "MAX_ENTRIES" = some (.int 400 t)
/-! ### values of any form that a menu holds -/
inductive Dat where
  | non
  | bl (b : Bool)
  | int (n : Int)
  | str (z : Str)
  | dic
  | lst (l : List Dat)
  | tup (l : List Dat)
inductive Rp (H : Hp) : V → Dat → Prop where
  | non : Rp H .non .non
  | bl (b : Bool) : Rp H (.bl b) (.bl b)
  | int (n : Int) : Rp H (.int n) (.int n)
  | str (z : Str) : Rp H (.str z) (.str z)
  | dic {a : Addr} (e : H a = some (.dK [])) : Rp H (.ref a) .dic
  | lst {a : Addr} {xs : List V} {l : List Dat} (e : H a = some (.lst xs)) (h : Paired (Rp H) xs l) : Rp H (.ref a) (.lst l)
  | tup {a : Addr} {xs : List V} {l : List Dat} (e : H a = some (.tup xs)) (h : Paired (Rp H) xs l) : Rp H (.ref a) (.tup l)
theorem Rp.same {H H' : Hp} (s : Same H H') {v : V} {d : Dat} (h : Rp H v d) : Rp H' v d := by
  refine Rp.rec (motive_1 := fun v d _ => Rp H' v d) (motive_2 := fun xs l _ => Paired (Rp H') xs l) .non .bl .int .str ?_ ?_ ?_ .nil ?_ h
  · intro a e
    exact .dic (s _ _ e)
  · intro a xs l e _ ih
    exact .lst (s _ _ e) ih
  · intro a xs l e _ ih
    exact .tup (s _ _ e) ih
  · intro x y xs ys _ _ h1 h2
    exact .cons h1 h2
def Dat.isI : Dat → Bool
  | .int _ => true
  | _ => false
def Dat.inI (lo hi : Int) : Dat → Bool
  | .int n => decide (lo ≤ n ∧ n ≤ hi)
  | _ => false
/-- its parts, if it is a list or a tuple -/
def Dat.parts : Dat → Option (List Dat)
  | .lst l => some l
  | .tup l => some l
  | _ => none
def Dat.listed (d : Dat) (m : Int) : Bool := match d.parts with
  | some l => decide ((l.length : Int) ≤ m)
  | none => false
def Dat.couple (d : Dat) : Bool := match d.parts with
  | some l => decide (l.length = 2)
  | none => false
/-- the name of its type -/
def Dat.ty : Dat → String
  | .non => "NoneType"
  | .bl _ => "bool"
  | .int _ => "int"
  | .str _ => "str"
  | .dic => "dict"
  | .lst _ => "list"
  | .tup _ => "tuple"
theorem Rp.tyx {K : PySem.W.Frag} {H : Hp} {v : V} {d : Dat} (h : Rp H v d) : TyX K H v (.type d.ty) := by
  cases h with
  | non => exact .base .non
  | bl b => exact .base (.bl b)
  | int n => exact .base (.int n)
  | str z => exact .base (.str z)
  | dic e => exact .base (.dK e)
  | lst e _ => exact .base (.lst e)
  | tup e _ => exact .base (.tup e)
theorem kit_lst {K : PySem.W.Frag} : PySem.W.kitAny K (.type "list") [.type "list", .type "tuple"] = some true := kitAny_cons (b := true) (kit_ty (by decide +kernel)) (fun z => nomatch z) (fun _ => rfl)
theorem kit_tup {K : PySem.W.Frag} : PySem.W.kitAny K (.type "tuple") [.type "list", .type "tuple"] = some true := kitAny_cons (b := false) (kit_ty (by decide +kernel)) (fun _ => kitAny_cons (b := true) (kit_ty (by decide +kernel)) (fun z => nomatch z) (fun _ => rfl)) (fun z => nomatch z)
theorem kit_no {K : PySem.W.Frag} {n : String} (h1 : kitB n "list" = some false) (h2 : kitB n "tuple" = some false) : PySem.W.kitAny K (.type n) [.type "list", .type "tuple"] = some false := kitAny_cons (b := false) (kit_ty h1) (fun _ => kitAny_cons (b := false) (kit_ty h2) (fun _ => rfl) (fun z => nomatch z)) (fun z => nomatch z)
theorem Rp.noSeq {K : PySem.W.Frag} {H : Hp} {v : V} {d : Dat} (h : Rp H v d) (hd : d.parts = none) : ∃ t, TyX K H v t ∧ PySem.W.kitAny K t [.type "list", .type "tuple"] = some false := by
  cases h with
  | non => exact ⟨_, .base .non, kit_no (by decide +kernel) (by decide +kernel)⟩
  | bl b => exact ⟨_, .base (.bl b), kit_no (by decide +kernel) (by decide +kernel)⟩
  | int n => exact ⟨_, .base (.int n), kit_no (by decide +kernel) (by decide +kernel)⟩
  | str z => exact ⟨_, .base (.str z), kit_no (by decide +kernel) (by decide +kernel)⟩
  | dic e => exact ⟨_, .base (.dK e), kit_no (by decide +kernel) (by decide +kernel)⟩
  | lst e _ => cases hd
  | tup e _ => cases hd
theorem Rp.seq {H : Hp} {v : V} {d : Dat} (h : Rp H v d) {l : List Dat} (hd : d.parts = some l) : ∃ a xs, v = .ref a ∧ Sq2 H a xs ∧ Paired (Rp H) xs l := by
  cases h with
  | non => cases hd
  | bl b => cases hd
  | int n => cases hd
  | str z => cases hd
  | dic e => cases hd
  | lst e h => cases hd; exact ⟨_, _, rfl, .inl e, h⟩
  | tup e h => cases hd; exact ⟨_, _, rfl, .inr e, h⟩
theorem giP {b : Bool} {A B : Prop} (h : b = true) (x : A) : if b = true then A else B := by
  rw [if_pos h]
  exact x
theorem giN {b : Bool} {A B : Prop} (h : b = false) (x : B) : if b = true then A else B := by
  rw [if_neg (by rw [h]; decide)]
  exact x
section
variable {P : Program} {w : World} {K : PySem.W.Frag} {mg : Str → Option Value} {base : Heap}
/-! is_whole: slots 0:value -/
abbrev s_is_whole : Stmt := topS 25
theorem sc_is_whole : FnScope ["value"] ["value"] (defScope s_is_whole) := ⟨rfl, rfl, rfl, by decide +kernel, rfl, by decide +kernel, by decide +kernel⟩
def sp_is_whole : Sp := fun vs H Q _ => ∃ (v : V) (d : Dat), vs = [v] ∧ Rp H v d ∧ Q (.bl d.isI) H
theorem ok_is_whole (D : Df K mg "is_whole" s_is_whole) (T : Tx mg) : Has P w K mg base 1 "is_whole" ["value"] sp_is_whole := by
  refine has_of D sc_is_whole (fun _ _ _ _ _ _ us hl => match us, hl with | [_], _ => rfl) (fun vs H Q E h => ?_) (fun f cdv A outer s H vs Q E hr h => ?_)
  · obtain ⟨v, d, rfl, _⟩ := h
    rfl
  · obtain ⟨v, d, rfl, hv, q⟩ := h
    refine ⟨_, (pss_one (ps_ret (pe_and (pe_callB call_isi (by rfl) T.n_isinstance (by decide +kernel) (pa_cons (pv 0) (pa_cons (pe_bltn (v := .ty "int") (by rfl) T.n_int (by decide +kernel) rfl) pa_nil))) (pe_one (pe_not (pe_callB call_isi (by rfl) T.n_isinstance (by decide +kernel) (pa_cons (pv 0) (pa_cons (pe_bltn (v := .ty "bool") (by rfl) T.n_bool (by decide +kernel) rfl) pa_nil)))))))), ?_⟩
    cases hv with
    | int n => exact ⟨_, rfl, _, _, _, _, true, rfl, .ty "int", .base (.int n), kit_ty (by decide +kernel), true, rfl, iteT ⟨_, rfl, _, _, _, _, false, rfl, .ty "bool", .base (.int n), kit_ty (by decide +kernel), false, rfl, q⟩⟩
    | bl b => exact ⟨_, rfl, _, _, _, _, true, rfl, .ty "int", .base (.bl b), kit_ty (by decide +kernel), true, rfl, iteT ⟨_, rfl, _, _, _, _, true, rfl, .ty "bool", .base (.bl b), kit_ty (by decide +kernel), true, rfl, q⟩⟩
    | non => exact ⟨_, rfl, _, _, _, _, false, rfl, .ty "int", .base .non, kit_ty (by decide +kernel), false, rfl, iteF q⟩
    | str z => exact ⟨_, rfl, _, _, _, _, false, rfl, .ty "int", .base (.str z), kit_ty (by decide +kernel), false, rfl, iteF q⟩
    | dic e => exact ⟨_, rfl, _, _, _, _, false, rfl, .ty "int", .base (.dK e), kit_ty (by decide +kernel), false, rfl, iteF q⟩
    | lst e h => exact ⟨_, rfl, _, _, _, _, false, rfl, .ty "int", .base (.lst e), kit_ty (by decide +kernel), false, rfl, iteF q⟩
    | tup e h => exact ⟨_, rfl, _, _, _, _, false, rfl, .ty "int", .base (.tup e), kit_ty (by decide +kernel), false, rfl, iteF q⟩
/-! is_within: slots 0:value 1:low 2:high -/
abbrev s_is_within : Stmt := topS 26
theorem sc_is_within : FnScope ["value", "low", "high"] ["value", "low", "high"] (defScope s_is_within) := ⟨rfl, rfl, rfl, by decide +kernel, rfl, by decide +kernel, by decide +kernel⟩
def sp_is_within : Sp := fun vs H Q _ => ∃ (v : V) (d : Dat) (lo hi : Int), vs = [v, .int lo, .int hi] ∧ Rp H v d ∧ Q (.bl (d.inI lo hi)) H
theorem ok_is_within (D : Df K mg "is_within" s_is_within) (G_is_whole : Has P w K mg base 1 "is_whole" ["value"] sp_is_whole) : Has P w K mg base 2 "is_within" ["value", "low", "high"] sp_is_within := by
  refine has_of D sc_is_within (fun _ _ _ _ _ _ us hl => match us, hl with | [_, _, _], _ => rfl) (fun vs H Q E h => ?_) (fun f cdv A outer s H vs Q E hr h => ?_)
  · obtain ⟨v, d, lo, hi, rfl, _⟩ := h
    rfl
  · obtain ⟨v, d, lo, hi, rfl, hv, q⟩ := h
    refine ⟨_, (pss_one (ps_ret (pe_and (pe_callH G_is_whole (hr.mono (by omega)) (by rfl) (pa_cons (pv 0) pa_nil)) (pe_one (pe_chain op_le op_le (pv 1) (pv 0) (pv 2)))))), ?_⟩
    refine ⟨_, rfl, v, d, rfl, hv, d.isI, rfl, ?_⟩
    by_cases ci : d.isI = true
    · refine giP ci ?_
      cases hv with
      | int n =>
        refine ⟨_, rfl, _, rfl, _, _, rfl, rfl, _, rfl, ite2 (fun e => ?_) (fun e => ?_)⟩
        · have e := of_decide_eq_true e
          refine ⟨_, rfl, _, _, rfl, rfl, ?_⟩
          show Q (.bl (decide (n ≤ hi))) H
          rw [show decide (n ≤ hi) = (Dat.int n).inI lo hi by show _ = decide (lo ≤ n ∧ n ≤ hi); simp [e]]
          exact q
        · have e : ¬ lo ≤ n := fun z => e (decide_eq_true z)
          show Q (.bl false) H
          rw [show false = (Dat.int n).inI lo hi by show _ = decide (lo ≤ n ∧ n ≤ hi); simp [e]]
          exact q
      | _ => cases ci
    · refine giN (by simpa using ci) ?_
      have e : d.inI lo hi = false := by
        cases d with
        | int n => exact absurd rfl ci
        | _ => rfl
      rw [e] at q
      exact q
/-! is_listed: slots 0:value 1:most -/
abbrev s_is_listed : Stmt := topS 27
theorem sc_is_listed : FnScope ["value", "most"] ["value", "most"] (defScope s_is_listed) := ⟨rfl, rfl, rfl, by decide +kernel, rfl, by decide +kernel, by decide +kernel⟩
def sp_is_listed : Sp := fun vs H Q _ => ∃ (v : V) (d : Dat) (m : Int), vs = [v, .int m] ∧ Rp H v d ∧ ∀ H', Same H H' → Q (.bl (d.listed m)) H'
theorem ok_is_listed (D : Df K mg "is_listed" s_is_listed) (T : Tx mg) : Has P w K mg base 1 "is_listed" ["value", "most"] sp_is_listed := by
  refine has_of D sc_is_listed (fun _ _ _ _ _ _ us hl => match us, hl with | [_, _], _ => rfl) (fun vs H Q E h => ?_) (fun f cdv A outer s H vs Q E hr h => ?_)
  · obtain ⟨v, d, m, rfl, _⟩ := h
    rfl
  · obtain ⟨v, d, m, rfl, hv, q⟩ := h
    refine ⟨_, (pss_one (ps_ret (pe_and (pe_callB call_isiT (by rfl) T.n_isinstance (by decide +kernel) (pa_cons (pv 0) (pa_cons (pe_tup (pa_cons (pe_bltn (v := .ty "list") (by rfl) T.n_list (by decide +kernel) rfl) (pa_cons (pe_bltn (v := .ty "tuple") (by rfl) T.n_tuple (by decide +kernel) rfl) pa_nil))) pa_nil))) (pe_one (pe_cmpR op_le (pe_callB call_len_seq (by rfl) T.n_len (by decide +kernel) (pa_cons (pv 0) pa_nil)) (pv 1) (nomark _)))))), ?_⟩
    refine ⟨_, rfl, (by show 2 ≤ sizeLine; decide), fun t nt => ?_⟩
    have q := q _ (same_upd (o := .tup [.ty "list", .ty "tuple"]) nt)
    have hv := hv.same (same_upd (o := .tup [.ty "list", .ty "tuple"]) nt)
    cases hd : d.parts with
    | none =>
      obtain ⟨tv, h1, h2⟩ := hv.noSeq (K := K) hd
      refine ⟨_, t, _, _, _, false, rfl, upd_same, .cons (.ty "list") (.cons (.ty "tuple") .nil), h1, h2, false, rfl, iteF ?_⟩
      rw [show d.listed m = false by unfold Dat.listed; rw [hd]] at q
      exact q
    | some l =>
      obtain ⟨a, xs, rfl, hx, hp⟩ := hv.seq hd
      have ll : xs.length = l.length := Paired.len hp
      rw [show d.listed m = decide ((xs.length : Int) ≤ m) by unfold Dat.listed; rw [hd, ll]] at q
      rcases hx with hx | hx
      · refine ⟨_, t, _, _, _, true, rfl, upd_same, .cons (.ty "list") (.cons (.ty "tuple") .nil), .base (.lst hx), kit_lst, true, rfl, iteT ?_⟩
        exact ⟨_, rfl, _, _, rfl, .inl (.of hx), _, rfl, _, _, rfl, rfl, q⟩
      · refine ⟨_, t, _, _, _, true, rfl, upd_same, .cons (.ty "list") (.cons (.ty "tuple") .nil), .base (.tup hx), kit_tup, true, rfl, iteT ?_⟩
        exact ⟨_, rfl, _, _, rfl, .inr (.of hx), _, rfl, _, _, rfl, rfl, q⟩
/-! is_couple: slots 0:value -/
abbrev s_is_couple : Stmt := topS 28
theorem sc_is_couple : FnScope ["value"] ["value"] (defScope s_is_couple) := ⟨rfl, rfl, rfl, by decide +kernel, rfl, by decide +kernel, by decide +kernel⟩
def sp_is_couple : Sp := fun vs H Q _ => ∃ (v : V) (d : Dat), vs = [v] ∧ Rp H v d ∧ ∀ H', Same H H' → Q (.bl d.couple) H'
theorem ok_is_couple (D : Df K mg "is_couple" s_is_couple) (T : Tx mg) : Has P w K mg base 1 "is_couple" ["value"] sp_is_couple := by
  refine has_of D sc_is_couple (fun _ _ _ _ _ _ us hl => match us, hl with | [_], _ => rfl) (fun vs H Q E h => ?_) (fun f cdv A outer s H vs Q E hr h => ?_)
  · obtain ⟨v, d, rfl, _⟩ := h
    rfl
  · obtain ⟨v, d, rfl, hv, q⟩ := h
    refine ⟨_, (pss_one (ps_ret (pe_and (pe_callB call_isiT (by rfl) T.n_isinstance (by decide +kernel) (pa_cons (pv 0) (pa_cons (pe_tup (pa_cons (pe_bltn (v := .ty "list") (by rfl) T.n_list (by decide +kernel) rfl) (pa_cons (pe_bltn (v := .ty "tuple") (by rfl) T.n_tuple (by decide +kernel) rfl) pa_nil))) pa_nil))) (pe_one (pe_cmpR op_eq (pe_callB call_len_seq (by rfl) T.n_len (by decide +kernel) (pa_cons (pv 0) pa_nil)) pe_int (nomark _)))))), ?_⟩
    refine ⟨_, rfl, (by show 2 ≤ sizeLine; decide), fun t nt => ?_⟩
    have q := q _ (same_upd (o := .tup [.ty "list", .ty "tuple"]) nt)
    have hv := hv.same (same_upd (o := .tup [.ty "list", .ty "tuple"]) nt)
    cases hd : d.parts with
    | none =>
      obtain ⟨tv, h1, h2⟩ := hv.noSeq (K := K) hd
      refine ⟨_, t, _, _, _, false, rfl, upd_same, .cons (.ty "list") (.cons (.ty "tuple") .nil), h1, h2, false, rfl, iteF ?_⟩
      rw [show d.couple = false by unfold Dat.couple; rw [hd]] at q
      exact q
    | some l =>
      obtain ⟨a, xs, rfl, hx, hp⟩ := hv.seq hd
      have ll : xs.length = l.length := Paired.len hp
      have eb : decide (V.int (xs.length : Int) = V.int 2) = d.couple := by
        unfold Dat.couple
        rw [hd]
        show _ = decide (l.length = 2)
        rw [← ll]
        exact decide_eq_decide.mpr ⟨fun z => by have := V.int.inj z; omega, fun z => by rw [z]; rfl⟩
      rw [← eb] at q
      rcases hx with hx | hx
      · exact ⟨_, t, _, _, _, true, rfl, upd_same, .cons (.ty "list") (.cons (.ty "tuple") .nil), .base (.lst hx), kit_lst, true, rfl, iteT ⟨_, rfl, _, _, rfl, .inl (.of hx), rfl, q⟩⟩
      · exact ⟨_, t, _, _, _, true, rfl, upd_same, .cons (.ty "list") (.cons (.ty "tuple") .nil), .base (.tup hx), kit_tup, true, rfl, iteT ⟨_, rfl, _, _, rfl, .inr (.of hx), rfl, q⟩⟩
end
end UP

set_option Elab.async false
set_option linter.all false
set_option maxRecDepth 100000
set_option maxHeartbeats 4000000
namespace UP
open PySem PySem.Spec PyProof.Rows L2
theorem iteP {b : Bool} {A B : Prop} (h : b = true) (x : A) : if b = true then A else B := by
  rw [if_pos h]
  exact x
theorem iteN {b : Bool} {A B : Prop} (h : b = false) (x : B) : if b = true then A else B := by
  rw [if_neg (by rw [h]; decide)]
  exact x
theorem yesT {σ : L2.St} {H : Hp} {A B : Hp → Prop} (h : A H) : tYes σ H (fun b H3 => if b = true then A H3 else B H3) := by
  show (if true = true then A H else B H)
  exact iteT h
theorem lc_gen {J : It} {n : Nat} {g : TG} {tt : TT} {te : TE} {vs : List Nat} {σ : L2.St} {H1 : Hp} {D : Addr} {Qd : Hp → Prop} (Pv : Nat → Hp → Prop) (h0 : Pv 0 (upd H1 D (.lst [])))
    (hg : ∀ i H, i < n → Pv i H → J.go i H) (hst : ∀ H, Pv n H → J.stop n H)
    (hs : ∀ i x H H', i < n → Pv i H → J.yld i H x H' → g x (wipe σ vs) H' fun σ2 H2 => wipe σ2 vs = wipe σ vs ∧ tt σ2 H2 fun b H3 =>
      if b = true then te σ2 H3 fun y H4 => ∃ acc, H4 D = some (.lst acc) ∧ acc.length < sizeLine ∧ Pv (i + 1) (upd H4 D (.lst (acc ++ [y]))) else Pv (i + 1) H3) (hd : ∀ H, Pv n H → Qd H) :
    ∃ W : Nat → Nat → Hp → Prop, (∃ m, W 0 m (upd H1 D (.lst []))) ∧ ∀ i m H, W i m H →
      (J.stop i H ∧ Qd H) ∨ (J.go i H ∧ ∃ Nx : Hp → Prop, (∀ H', Nx H' → ∃ m', m' < m ∧ W (i + 1) m' H') ∧ ∀ x H', J.yld i H x H' → g x (wipe σ vs) H' fun σ2 H2 => wipe σ2 vs = wipe σ vs ∧ tt σ2 H2 fun b H3 =>
        if b = true then te σ2 H3 fun y H4 => ∃ acc, H4 D = some (.lst acc) ∧ acc.length < sizeLine ∧ Nx (upd H4 D (.lst (acc ++ [y]))) else Nx H3) := by
  refine ⟨fun i m H => m = n - i ∧ i ≤ n ∧ Pv i H, ⟨n, by simp, Nat.zero_le _, h0⟩, ?_⟩
  rintro i m H ⟨rfl, hi, p⟩
  by_cases hlt : i < n
  · exact .inr ⟨hg i H hlt p, Pv (i + 1), fun H' p' => ⟨n - (i + 1), by omega, rfl, hlt, p'⟩, fun x H' y => hs i x H H' hlt p y⟩
  · have e : i = n := by omega
    subst e
    exact .inl ⟨hst H p, hd H p⟩
section
variable {X : Cx} {K : PySem.W.Frag}
theorem ix_tupK (h : X.K = K) : IxR X (rIxT K) := h ▸ ix_tup
theorem ix_listK (h : X.K = K) : IxR X (rIxL K) := h ▸ ix_list
theorem pg_tupK {es : List Expr} {k : Nat} {t : TGs} {n : Nat} {pos : Pos} (h : X.K = K) (hc : X.calm = true) (hp : PGs X es t)
    (hn : (assignEach es X.env).length = n := by rfl) (hst : (assignEach es X.env).findIdx? (fun z => z.1) = none := by rfl) : PG X (.Tuple es k pos) (gTup K n t) := by
  subst h
  exact pg_tup hc hp hn hst
theorem call_len_seqK (h : X.K = K) : CallR X (.builtin "len") (fun xs H Q => ∃ p ys, xs = [.ref p] ∧ (SqL K H p ys ∨ SqT K H p ys) ∧ Q (.int ys.length) H) := by
  subst h
  exact call_len_seq
end
theorem ix_seqK {X : Cx} {K : PySem.W.Frag} (h : X.K = K) : IxR X (rIx K) := h ▸ ix_seq
/-! ### lists that grow -/
theorem same_grow {H H4 : Hp} {D : Addr} {o : HO} (n : H D = none) (s : Same H H4) : Same H (upd H4 D o) := fun b x e => by
  rw [upd_ne (ne_of_none e n)]
  exact s b x e
theorem RunV.grow {H : Hp} {D : Addr} {acc acc' : List V} {v : V} {r : Run} (hD : H D = some (.lst acc)) (h : RunV H v r) : RunV (upd H D (.lst acc')) v r := by
  obtain ⟨t, e, h⟩ := h
  refine ⟨t, e, ?_⟩
  rw [upd_ne (ne_of h hD (by intro q; cases q))]
  exact h
theorem prs_grow {H : Hp} {D : Addr} {acc acc' : List V} {xs : List V} {rs : List Run} (hD : H D = some (.lst acc)) (h : Paired (RunV H) xs rs) : Paired (RunV (upd H D (.lst acc'))) xs rs := Paired.imp (fun _ _ => RunV.grow hD) h
theorem prs_same {H H' : Hp} {xs : List V} {rs : List Run} (s : Same H H') (h : Paired (RunV H) xs rs) : Paired (RunV H') xs rs := Paired.imp (fun _ _ => RunV.same s) h
theorem take_snoc {α : Type} {l : List α} {i : Nat} {x : α} (h : l[i]? = some x) : l.take (i + 1) = l.take i ++ [x] := by
  rw [List.take_add_one, h]
  rfl
theorem lc_wk {J : It} {H0 H1 : Hp} {xs : List V} {g : TG} {tt : TT} {te : TE} {vs : List Nat} {σ : L2.St} {D : Addr} {Qd : Hp → Prop} (wk : Wk J H0 xs) (Pv : Nat → Hp → Prop) (hsm : ∀ i H, Pv i H → Same H0 H) (h0 : Pv 0 (upd H1 D (.lst [])))
    (hs : ∀ i x H, xs[i]? = some x → Pv i H → g x (wipe σ vs) H fun σ2 H2 => wipe σ2 vs = wipe σ vs ∧ tt σ2 H2 fun b H3 =>
      if b = true then te σ2 H3 fun y H4 => ∃ acc, H4 D = some (.lst acc) ∧ acc.length < sizeLine ∧ Pv (i + 1) (upd H4 D (.lst (acc ++ [y]))) else Pv (i + 1) H3) (hd : ∀ H, Pv xs.length H → Qd H) :
    ∃ W : Nat → Nat → Hp → Prop, (∃ m, W 0 m (upd H1 D (.lst []))) ∧ ∀ i m H, W i m H →
      (J.stop i H ∧ Qd H) ∨ (J.go i H ∧ ∃ Nx : Hp → Prop, (∀ H', Nx H' → ∃ m', m' < m ∧ W (i + 1) m' H') ∧ ∀ x H', J.yld i H x H' → g x (wipe σ vs) H' fun σ2 H2 => wipe σ2 vs = wipe σ vs ∧ tt σ2 H2 fun b H3 =>
        if b = true then te σ2 H3 fun y H4 => ∃ acc, H4 D = some (.lst acc) ∧ acc.length < sizeLine ∧ Nx (upd H4 D (.lst (acc ++ [y]))) else Nx H3) := by
  refine lc_gen Pv h0 (fun i H hi p => wk.go i H (hsm i H p) hi) (fun H p => wk.stop H (hsm _ H p)) (fun i x H H' hi p y => ?_) hd
  obtain ⟨e, ex⟩ := wk.yld i x H H' (hsm i H p) y
  subst e
  exact hs i x _ ex p
theorem for_wk {J : It} {H0 H : Hp} {xs : List V} {g : TG} {tb : TS} {D : Ends} {σ : L2.St} (wk : Wk J H0 xs) (Pv : Nat → L2.St → Hp → Prop) (hsm : ∀ i σ H, Pv i σ H → Same H0 H) (h0 : Pv 0 σ H)
    (hs : ∀ i x σ H, xs[i]? = some x → Pv i σ H → g x σ H fun σ2 H2 => tb { D with nx := Pv (i + 1), ct := Pv (i + 1), bk := D.nx } σ2 H2) (hd : ∀ σ H, Pv xs.length σ H → D.nx σ H) :
    ∃ W : Nat → Nat → L2.St → Hp → Prop, (∃ m, W 0 m σ H) ∧ ∀ i m σ H, W i m σ H →
      (J.stop i H ∧ D.nx σ H) ∨ (J.go i H ∧ ∃ N : L2.St → Hp → Prop, (∀ σ' H', N σ' H' → ∃ m', m' < m ∧ W (i + 1) m' σ' H') ∧ ∀ x H', J.yld i H x H' → g x σ H' fun σ2 H2 => tb { D with nx := N, ct := N, bk := D.nx } σ2 H2) := by
  refine ⟨fun i m σ H => m = xs.length - i ∧ i ≤ xs.length ∧ Pv i σ H, ⟨xs.length, by omega, Nat.zero_le _, h0⟩, ?_⟩
  rintro i m σ H ⟨rfl, hi, p⟩
  by_cases hlt : i < xs.length
  · refine Or.inr ⟨wk.go i H (hsm i σ H p) hlt, Pv (i + 1), fun σ' H' p' => ⟨xs.length - (i + 1), by omega, rfl, hlt, p'⟩, fun x H' y => ?_⟩
    obtain ⟨e, ex⟩ := wk.yld i x H H' (hsm i σ H p) y
    subst e
    exact hs i x σ _ ex p
  · have e : i = xs.length := by omega
    subst e
    exact Or.inl ⟨wk.stop H (hsm _ σ H p), hd σ H p⟩
section
variable {P : Program} {w : World} {K : PySem.W.Frag} {mg : Str → Option Value} {base : Heap}
theorem lex1 {c d : Nat} : (!decide (([c] : List Nat) < [d])) = decide (d ≤ c) := by
  have e : (([c] : List Nat) < [d]) ↔ c < d := by
    rw [List.cons_lt_cons_iff]
    simp
  by_cases h : c < d
  · rw [decide_eq_true (e.mpr h), decide_eq_false (by omega)]
    rfl
  · rw [decide_eq_false (fun z => h (e.mp z)), decide_eq_true (by omega)]
    rfl
/-! ### what the functions say of such a value -/
def kindB (z : Str) : Bool := decide (1 ≤ (z.length : Int) ∧ (z.length : Int) ≤ 8) && z.cps.toList.all fun c => decide (97 ≤ c ∧ c ≤ 122)
def Dat.kind : Dat → Bool
  | .str z => kindB z
  | _ => false
/-- its text, if it is one, is not too long -/
def Dat.fit : Dat → Prop
  | .str z => z.length ≤ 4000
  | _ => True
def Dat.two (d : Dat) : Option (Dat × Dat) := match d.parts with
  | some [x, y] => some (x, y)
  | _ => none
def Dat.run (d : Dat) : Bool := match d.two with
  | some (x, y) => x.kind && y.inI 1 1000000000000000000000000000000
  | none => false
def Dat.pos : Dat → Bool
  | .int n => decide (1 ≤ n)
  | _ => false
def Dat.state (d : Dat) : Bool := match d with
  | .non => true
  | d => match d.two with
    | some (x, y) => x.kind && y.pos
    | none => false
def Dat.fit2 (d : Dat) : Prop := ∀ x y, d.two = some (x, y) → x.fit
theorem kitS {K : PySem.W.Frag} {H : Hp} {v : V} {d : Dat} (h : Rp H v d) (hn : ∀ z, d ≠ .str z) : ∃ t, TyX K H v t ∧ PySem.W.kitOne K t (.type "str") = some false := by
  cases h with
  | non => exact ⟨_, .base .non, kit_ty (by decide +kernel)⟩
  | bl b => exact ⟨_, .base (.bl b), kit_ty (by decide +kernel)⟩
  | int n => exact ⟨_, .base (.int n), kit_ty (by decide +kernel)⟩
  | str z => exact absurd rfl (hn z)
  | dic e => exact ⟨_, .base (.dK e), kit_ty (by decide +kernel)⟩
  | lst e _ => exact ⟨_, .base (.lst e), kit_ty (by decide +kernel)⟩
  | tup e _ => exact ⟨_, .base (.tup e), kit_ty (by decide +kernel)⟩
theorem all_map {α : Type} (l : List α) (f : α → Bool) : ((l.map f).all id) = l.all f := by
  induction l with
  | nil => rfl
  | cons x t ih => rw [List.map_cons, List.all_cons, List.all_cons, ih]; rfl
/-! is_kind: slots 0:value 1:letter -/
abbrev s_is_kind : Stmt := topS 29
theorem sc_is_kind : FnScope ["value", "letter"] ["value"] (defScope s_is_kind) := ⟨rfl, rfl, rfl, by decide +kernel, rfl, by decide +kernel, by decide +kernel⟩
def sp_is_kind : Sp := fun vs H Q _ => ∃ (v : V) (d : Dat), vs = [v] ∧ Rp H v d ∧ d.fit ∧ ∀ H', Same H H' → Q (.bl d.kind) H'
theorem ok_is_kind (D : Df K mg "is_kind" s_is_kind) (T : Tx mg) : Has P w K mg base 1 "is_kind" ["value"] sp_is_kind := by
  refine has_of D sc_is_kind (fun _ _ _ _ _ _ us hl => match us, hl with | [_], _ => rfl) (fun vs H Q E h => ?_) (fun f cdv A outer s H vs Q E hr h => ?_)
  · obtain ⟨v, d, rfl, _⟩ := h
    rfl
  · obtain ⟨v, d, rfl, hv, fit, q⟩ := h
    refine ⟨_, (pss_cons (ps_if (PW.pt (pw_or (pt_not (pt_val (pe_callB call_isi (by rfl) T.n_isinstance (by decide +kernel) (pa_cons (pv 0) (pa_cons (pe_bltn (v := .ty "str") (by rfl) T.n_str (by decide +kernel) rfl) pa_nil))))) (pw_or1 (pt_not (pt_chain op_le op_le pe_int (pe_callB call_len_str (by rfl) T.n_len (by decide +kernel) (pa_cons (pv 0) pa_nil)) (pe_glI T.c_MAX_LETTERS (by rfl))))))) (pss_one (ps_ret pe_bl)) pss_nil)
    (pss_one (ps_ret (pe_callB (cr_all rfl) (by rfl) T.n_all (by decide +kernel) (pa_cons (pe_lc (own := [("letter", 1)]) rfl sc_is_kind.nd (pi_str (pv 0)) (blkOk_by (N := ["value", "letter"]) (sc := defScope s_is_kind) (by decide +kernel)) (fun _ _ _ _ _ => (pg_name (i := 1) sc_is_kind.nd rfl (by first | exact Or.inl rfl | exact Or.inr rfl))) (fun _ _ _ _ _ => pts_nil) (fun _ _ _ _ _ => (pe_chain op_le_str op_le_str pe_str (pv 1) pe_str))) pa_nil))))), ?_⟩
    by_cases hn : ∀ z, d ≠ .str z
    · obtain ⟨t, h1, h2⟩ := kitS (K := K) hv hn
      have e : d.kind = false := by
        cases d with
        | str z => exact absurd rfl (hn z)
        | _ => rfl
      rw [e] at q
      exact ⟨_, rfl, _, _, _, _, false, rfl, .ty "str", h1, h2, false, rfl, iteT (q H (Same.refl H))⟩
    have hn : ∃ z, d = .str z := by
      apply Classical.byContradiction
      intro c
      exact hn fun z e => c ⟨z, e⟩
    obtain ⟨z, rfl⟩ := hn
    cases hv
    have fit : z.length ≤ 4000 := fit
    refine ⟨_, rfl, _, _, _, _, true, rfl, .ty "str", .base (.str z), kit_ty (by decide +kernel), true, rfl, iteF ?_⟩
    have no : ¬ (1 ≤ (z.length : Int) ∧ (z.length : Int) ≤ 8) → (Dat.str z).kind = false := fun c => by
      show (decide _ && _) = false
      rw [decide_eq_false c]
      rfl
    refine ⟨_, rfl, z, rfl, smallE (by omega), _, _, rfl, rfl, _, rfl, ?_⟩
    by_cases c1 : (1 : Int) ≤ (z.length : Int)
    · refine iteP (decide_eq_true c1) ⟨_, _, rfl, rfl, _, rfl, ?_⟩
      by_cases c2 : (z.length : Int) ≤ 8
      · refine iteN ?_ ?_
        · show (!decide ((z.length : Int) ≤ 8)) = false
          rw [decide_eq_true c2]
          rfl
        refine ⟨_, rfl, z, rfl, fun L nL => lc_gen (n := z.cps.size) (fun i H' => Same H H' ∧ H' L = some (.lst (((z.cps.toList.take i).map fun c => decide (97 ≤ c ∧ c ≤ 122)).map V.bl))) ⟨same_upd nL, upd_same⟩ (fun i H' hi _ => hi) (fun H' _ => Nat.le_refl _) (fun i x H1 H2 hi p y => ?_) (fun H' p => ?_)⟩
        · obtain ⟨rfl, c, ec, rfl⟩ := y
          obtain ⟨sm, hL⟩ := p
          have ec' : z.cps.toList[i]? = some c := by
            rw [Array.getElem?_toList]
            exact ec
          have ea : ("a" : Str).cps.toList = [97] := by decide +kernel
          have ez : ("z" : Str).cps.toList = [122] := by decide +kernel
          have lim : (((z.cps.toList.take i).map fun c => decide (97 ≤ c ∧ c ≤ 122)).map V.bl).length < sizeLine := by
            simp only [List.length_map, List.length_take]
            exact small (by have : z.cps.size = z.length := rfl; omega)
          have put : ∀ b : Bool, b = decide (97 ≤ c ∧ c ≤ 122) → Same H (upd H2 L (.lst ((((z.cps.toList.take i).map fun c => decide (97 ≤ c ∧ c ≤ 122)).map V.bl) ++ [V.bl b]))) ∧ (upd H2 L (.lst ((((z.cps.toList.take i).map fun c => decide (97 ≤ c ∧ c ≤ 122)).map V.bl) ++ [V.bl b]))) L = some (.lst (((z.cps.toList.take (i + 1)).map fun c => decide (97 ≤ c ∧ c ≤ 122)).map V.bl)) := by
            intro b hb
            refine ⟨same_grow nL sm, ?_⟩
            rw [upd_same, take_snoc ec', List.map_append, List.map_append, hb]
            rfl
          have t1 : (!decide (([c] : List Nat) < ("a" : Str).cps.toList)) = decide (97 ≤ c) := by rw [ea, lex1]
          have t2 : (!decide ((("z" : Str).cps.toList) < ([c] : List Nat))) = decide (c ≤ 122) := by rw [ez, lex1]
          refine ⟨rfl, yesT ⟨_, rfl, _, _, rfl, rfl, _, rfl, ?_⟩⟩
          by_cases b1 : 97 ≤ c
          · refine iteP (t1.trans (decide_eq_true b1)) ⟨_, _, rfl, rfl, _, hL, lim, put _ ?_⟩
            exact t2.trans (decide_eq_decide.mpr ⟨fun z => ⟨b1, z⟩, fun z => z.2⟩)
          · refine iteN (t1.trans (decide_eq_false b1)) ⟨_, hL, lim, put _ ?_⟩
            exact (decide_eq_false (p := 97 ≤ c ∧ c ≤ 122) (fun z => b1 z.1)).symm
        · refine ⟨L, _, rfl, .of p.2, ?_⟩
          have e : (((z.cps.toList.take z.cps.size).map fun c => decide (97 ≤ c ∧ c ≤ 122)).all id) = (Dat.str z).kind := by
            rw [all_map, List.take_of_length_le (by rw [Array.length_toList]; exact Nat.le_refl _)]
            show _ = (decide _ && _)
            rw [decide_eq_true ⟨c1, c2⟩]
            rfl
          rw [e]
          exact q H' p.1
      · refine iteP ?_ ?_
        · show (!decide ((z.length : Int) ≤ 8)) = true
          rw [decide_eq_false c2]
          rfl
        rw [no fun k => c2 k.2] at q
        exact q H (Same.refl H)
    · rw [no fun k => c1 k.1] at q
      exact iteN (decide_eq_false c1) ⟨_, rfl, iteT (q H (Same.refl H))⟩
theorem at0 {α : Type} {x y : α} : atI [x, y] 0 = some x := rfl
theorem at1 {α : Type} {x y : α} : atI [x, y] 1 = some y := rfl
theorem ix0 {K : PySem.W.Frag} {H : Hp} {t : Addr} {x y : V} {Q : VK} (h : Sq2 H t [x, y]) (q : Q x H) : rIx K (.ref t) (.int 0) H Q := h.elim (fun z => .inl ⟨t, _, 0, _, rfl, rfl, .of z, at0, q⟩) (fun z => .inr (.inl ⟨t, _, 0, _, rfl, rfl, .of z, at0, q⟩))
theorem ix1 {K : PySem.W.Frag} {H : Hp} {t : Addr} {x y : V} {Q : VK} (h : Sq2 H t [x, y]) (q : Q y H) : rIx K (.ref t) (.int 1) H Q := h.elim (fun z => .inl ⟨t, _, 1, _, rfl, rfl, .of z, at1, q⟩) (fun z => .inr (.inl ⟨t, _, 1, _, rfl, rfl, .of z, at1, q⟩))
theorem Rp.two {H : Hp} {v : V} {d x y : Dat} (h : Rp H v d) (e : d.two = some (x, y)) : ∃ a vx vy, v = .ref a ∧ Sq2 H a [vx, vy] ∧ Rp H vx x ∧ Rp H vy y := by
  cases hp : d.parts with
  | none =>
    unfold Dat.two at e
    rw [hp] at e
    cases e
  | some l =>
    obtain ⟨a, xs, rfl, hx, hq⟩ := h.seq hp
    unfold Dat.two at e
    rw [hp] at e
    cases hq with
    | nil => cases e
    | cons h1 t1 =>
      cases t1 with
      | nil => cases e
      | cons h2 t2 =>
        cases t2 with
        | nil =>
          cases e
          exact ⟨a, _, _, rfl, hx, h1, h2⟩
        | cons h3 t3 => cases e
theorem couple_two {d : Dat} : d.couple = d.two.isSome := by
  unfold Dat.couple Dat.two
  cases d.parts with
  | none => rfl
  | some l =>
    match l with
    | [] => rfl
    | [x] => rfl
    | [x, y] => rfl
    | x :: y :: z :: t =>
      show decide ((x :: y :: z :: t).length = 2) = false
      exact decide_eq_false (by simp only [List.length_cons]; omega)
/-! is_run: slots 0:value -/
abbrev s_is_run : Stmt := topS 30
theorem sc_is_run : FnScope ["value"] ["value"] (defScope s_is_run) := ⟨rfl, rfl, rfl, by decide +kernel, rfl, by decide +kernel, by decide +kernel⟩
def sp_is_run : Sp := fun vs H Q _ => ∃ (v : V) (d : Dat), vs = [v] ∧ Rp H v d ∧ d.fit2 ∧ ∀ H', Same H H' → Q (.bl d.run) H'
theorem ok_is_run (D : Df K mg "is_run" s_is_run) (T : Tx mg) (G_is_couple : Has P w K mg base 1 "is_couple" ["value"] sp_is_couple) (G_is_kind : Has P w K mg base 1 "is_kind" ["value"] sp_is_kind) (G_is_within : Has P w K mg base 2 "is_within" ["value", "low", "high"] sp_is_within) :
    Has P w K mg base 3 "is_run" ["value"] sp_is_run := by
  refine has_of D sc_is_run (fun _ _ _ _ _ _ us hl => match us, hl with | [_], _ => rfl) (fun vs H Q E h => ?_) (fun f cdv A outer s H vs Q E hr h => ?_)
  · obtain ⟨v, d, rfl, _⟩ := h
    rfl
  · obtain ⟨v, d, rfl, hv, fit, q⟩ := h
    refine ⟨_, (pss_one (ps_ret (pe_and (pe_callH G_is_couple (hr.mono (by omega)) (by rfl) (pa_cons (pv 0) pa_nil)) (pe_and (pe_callH G_is_kind (hr.mono (by omega)) (by rfl) (pa_cons (pe_ix ix_seq (pv 0) pe_int (fun _ _ => rfl)) pa_nil)) (pe_one (pe_callH G_is_within (hr.mono (by omega)) (by rfl) (pa_cons (pe_ix ix_seq (pv 0) pe_int (fun _ _ => rfl)) (pa_cons pe_int (pa_cons (pe_glI T.c_MAX_COUNT (by rfl)) pa_nil))))))))), ?_⟩
    refine ⟨_, rfl, v, d, rfl, hv, fun H1 s1 => ⟨d.couple, rfl, ?_⟩⟩
    cases ht : d.two with
    | none =>
      have e1 : d.couple = false := by rw [couple_two, ht]; rfl
      have e2 : d.run = false := by unfold Dat.run; rw [ht]
      rw [e2] at q
      refine iteN e1 ?_
      exact q _ s1
    | some p =>
      obtain ⟨x, y⟩ := p
      have e1 : d.couple = true := by rw [couple_two, ht]; rfl
      have e2 : d.run = (x.kind && y.inI 1 1000000000000000000000000000000) := by unfold Dat.run; rw [ht]
      rw [e2] at q
      obtain ⟨a, vx, vy, rfl, hs, hx, hy⟩ := hv.two ht
      refine iteP e1 ?_
      refine ⟨_, rfl, ix0 (hs.same s1) ⟨vx, x, rfl, hx.same s1, fit x y ht, fun H2 s2 => ⟨x.kind, rfl, ?_⟩⟩⟩
      by_cases ck : x.kind = true
      · refine iteP ck ?_
        rw [ck] at q
        refine ⟨_, rfl, ix1 ((hs.same s1).same s2) ⟨vy, y, 1, _, rfl, hy.same (s1.trans s2), q _ (s1.trans s2)⟩⟩
      · have ck : x.kind = false := by simpa using ck
        refine iteN ck ?_
        rw [ck] at q
        exact q _ (s1.trans s2)
/-! is_state: slots 0:value -/
abbrev s_is_state : Stmt := topS 32
theorem sc_is_state : FnScope ["value"] ["value"] (defScope s_is_state) := ⟨rfl, rfl, rfl, by decide +kernel, rfl, by decide +kernel, by decide +kernel⟩
def sp_is_state : Sp := fun vs H Q _ => ∃ (v : V) (d : Dat), vs = [v] ∧ Rp H v d ∧ d.fit2 ∧ ∀ H', Same H H' → Q (.bl d.state) H'
theorem ok_is_state (D : Df K mg "is_state" s_is_state) (T : Tx mg) (G_is_couple : Has P w K mg base 1 "is_couple" ["value"] sp_is_couple) (G_is_kind : Has P w K mg base 1 "is_kind" ["value"] sp_is_kind) (G_is_whole : Has P w K mg base 1 "is_whole" ["value"] sp_is_whole) :
    Has P w K mg base 2 "is_state" ["value"] sp_is_state := by
  refine has_of D sc_is_state (fun _ _ _ _ _ _ us hl => match us, hl with | [_], _ => rfl) (fun vs H Q E h => ?_) (fun f cdv A outer s H vs Q E hr h => ?_)
  · obtain ⟨v, d, rfl, _⟩ := h
    rfl
  · obtain ⟨v, d, rfl, hv, fit, q⟩ := h
    refine ⟨_, (pss_cons (ps_if (pt_cmpR op_isN (pv 0) pe_non (nomark _)) (pss_one (ps_ret pe_bl)) pss_nil)
    (pss_one (ps_ret (pe_and (pe_callH G_is_couple (hr.mono (by omega)) (by rfl) (pa_cons (pv 0) pa_nil)) (pe_and (pe_callH G_is_kind (hr.mono (by omega)) (by rfl) (pa_cons (pe_ix ix_seq (pv 0) pe_int (fun _ _ => rfl)) pa_nil)) (pe_and (pe_callH G_is_whole (hr.mono (by omega)) (by rfl) (pa_cons (pe_ix ix_seq (pv 0) pe_int (fun _ _ => rfl)) pa_nil)) (pe_one (pe_cmpR op_ge (pe_ix ix_seq (pv 0) pe_int (fun _ _ => rfl)) pe_int (nomark _))))))))), ?_⟩
    by_cases dn : d = .non
    · subst dn
      cases hv
      exact ⟨_, rfl, rfl, _, rfl, iteP rfl (q H (Same.refl H))⟩
    have vn : decide (v = V.non) = false := by
      refine decide_eq_false fun z => dn ?_
      subst z
      cases hv
      rfl
    have e0 : d.state = match d.two with
      | some (x, y) => x.kind && y.pos
      | none => false := by
      cases d with
      | non => exact absurd rfl dn
      | _ => rfl
    refine ⟨_, rfl, rfl, _, rfl, iteN vn ?_⟩
    refine ⟨_, rfl, v, d, rfl, hv, fun H1 s1 => ⟨d.couple, rfl, ?_⟩⟩
    cases ht : d.two with
    | none =>
      have e1 : d.couple = false := by rw [couple_two, ht]; rfl
      rw [e0, ht] at q
      refine iteN e1 ?_
      exact q _ s1
    | some p =>
      obtain ⟨x, y⟩ := p
      have e1 : d.couple = true := by rw [couple_two, ht]; rfl
      rw [e0, ht] at q
      obtain ⟨a, vx, vy, rfl, hs, hx, hy⟩ := hv.two ht
      refine iteP e1 ?_
      refine ⟨_, rfl, ix0 (hs.same s1) ⟨vx, x, rfl, hx.same s1, fit x y ht, fun H2 s2 => ⟨x.kind, rfl, ?_⟩⟩⟩
      have s12 := s1.trans s2
      by_cases ck : x.kind = true
      · refine iteP ck ?_
        refine ⟨_, rfl, ix1 ((hs.same s1).same s2) ⟨vy, y, rfl, hy.same s12, y.isI, rfl, ?_⟩⟩
        have q := q _ s12
        rw [show (match some (x, y) with | some (x, y) => x.kind && y.pos | none => false) = y.pos by show (x.kind && y.pos) = y.pos; rw [ck]; rfl] at q
        by_cases ci : y.isI = true
        · refine iteP ci ?_
          cases hy with
          | int n =>
            exact ⟨_, rfl, ix1 ((hs.same s1).same s2) ⟨_, _, rfl, rfl, q⟩⟩
          | _ => cases ci
        · have ci : y.isI = false := by simpa using ci
          refine iteN ci ?_
          rw [show y.pos = false by cases y with | int n => cases ci | _ => rfl] at q
          exact q
      · have ck : x.kind = false := by simpa using ck
        refine iteN ck ?_
        have q := q _ s12
        rw [show (match some (x, y) with | some (x, y) => x.kind && y.pos | none => false) = false by show (x.kind && y.pos) = false; rw [ck]; rfl] at q
        exact q
end
end UP

set_option Elab.async false
set_option linter.all false
set_option maxRecDepth 100000
set_option maxHeartbeats 4000000
namespace UP
open PySem PySem.Spec PyProof.Rows L2
/-- the kind of a run -/
def Dat.key (d : Dat) : Str := match d.two with
  | some (.str z, _) => z
  | _ => ""
def keyAt (l : List Dat) (i : Nat) : Str := match l[i]? with
  | some d => d.key
  | none => ""
def stepB (l : List Dat) (i : Nat) : Bool := !decide (V.str (keyAt l i) = V.str (keyAt l (i + 1)))
def Dat.seq (d : Dat) : Bool := match d.parts with
  | some l => decide ((l.length : Int) ≤ 400) && (l.all Dat.run && ((List.range (l.length - 1)).map (stepB l)).all id)
  | none => false
def Dat.fits (d : Dat) : Prop := ∀ l, d.parts = some l → l.length ≤ 100000 ∧ ∀ x ∈ l, x.fit2
theorem run_two {d : Dat} (h : d.run = true) : ∃ z y, d.two = some (.str z, y) ∧ d.key = z := by
  unfold Dat.run at h
  cases ht : d.two with
  | none => rw [ht] at h; cases h
  | some p =>
    obtain ⟨x, y⟩ := p
    rw [ht] at h
    have h : (x.kind && y.inI 1 1000000000000000000000000000000) = true := h
    cases x with
    | str z => exact ⟨z, y, rfl, by unfold Dat.key; rw [ht]⟩
    | _ => cases h
theorem range_snoc {α : Type} (f : Nat → α) (i : Nat) : (List.range (i + 1)).map f = (List.range i).map f ++ [f i] := by
  rw [List.range_succ, List.map_append]
  rfl
section
variable {P : Program} {w : World} {K : PySem.W.Frag} {mg : Str → Option Value} {base : Heap}
/-! is_sequence: slots 0:value 1:run 2:following -/
abbrev s_is_sequence : Stmt := topS 31
theorem sc_is_sequence : FnScope ["value", "run", "following"] ["value"] (defScope s_is_sequence) := ⟨rfl, rfl, rfl, by decide +kernel, rfl, by decide +kernel, by decide +kernel⟩
def sp_is_sequence : Sp := fun vs H Q _ => ∃ (v : V) (d : Dat), vs = [v] ∧ Rp H v d ∧ d.fits ∧ ∀ H', Same H H' → Q (.bl d.seq) H'
theorem ok_is_sequence (D : Df K mg "is_sequence" s_is_sequence) (T : Tx mg) (G_is_listed : Has P w K mg base 1 "is_listed" ["value", "most"] sp_is_listed) (G_is_run : Has P w K mg base 3 "is_run" ["value"] sp_is_run) :
    Has P w K mg base 4 "is_sequence" ["value"] sp_is_sequence := by
  refine has_of D sc_is_sequence (fun _ _ _ _ _ _ us hl => match us, hl with | [_], _ => rfl) (fun vs H Q E h => ?_) (fun f cdv A outer s H vs Q E hr h => ?_)
  · obtain ⟨v, r, rfl, _⟩ := h
    rfl
  · obtain ⟨v, d, rfl, hv, fit, q⟩ := h
    refine ⟨_, (pss_cons (ps_if (PW.pt (pw_or (pt_not (pt_val (pe_callH G_is_listed (hr.mono (by omega)) (by rfl) (pa_cons (pv 0) (pa_cons (pe_glI T.c_MAX_RUNS (by rfl)) pa_nil))))) (pw_or1 (pt_not (pt_val (pe_callB (cr_all rfl) (by rfl) T.n_all (by decide +kernel) (pa_cons (pe_lc (own := [("run", 1)]) rfl sc_is_sequence.nd (pi_seqV 0) (blkOk_by (N := ["value", "run", "following"]) (sc := defScope s_is_sequence) (by decide +kernel)) (fun _ _ _ _ _ => (pg_name (i := 1) sc_is_sequence.nd rfl (by first | exact Or.inl rfl | exact Or.inr rfl))) (fun _ _ _ _ _ => pts_nil) (fun _ _ _ _ _ => (pe_callH G_is_run (hr.mono (by omega)) (by rfl) (pa_cons (pv 1) pa_nil)))) pa_nil))))))) (pss_one (ps_ret pe_bl)) pss_nil)
    (pss_one (ps_ret (pe_callB (cr_all rfl) (by rfl) T.n_all (by decide +kernel) (pa_cons (pe_lc (own := [("run", 1), ("following", 2)]) rfl sc_is_sequence.nd (pi_zip1 (i := 0) (RZ.pi_zipA (by rfl) T.n_zip (pa_cons (pv 0) (pa_cons (pe_slice (SlR.or sl_list sl_tupA) (pv 0) (po_some pe_int) po_none) pa_nil))) (fun _ _ _ q => ⟨1, rfl, q⟩) (fun _ _ _ q => q)) (blkOk_by (N := ["value", "run", "following"]) (sc := defScope s_is_sequence) (by decide +kernel)) (fun _ _ _ _ _ => (pg_tupK (K := K) (n := 2) rfl rfl (pgs_cons (pg_name (i := 1) sc_is_sequence.nd rfl (by first | exact Or.inl rfl | exact Or.inr rfl)) (pgs_cons (pg_name (i := 2) sc_is_sequence.nd rfl (by first | exact Or.inl rfl | exact Or.inr rfl)) pgs_nil)))) (fun _ _ _ _ _ => pts_nil) (fun _ _ _ _ _ => (pe_cmpR op_ne (pe_ix (ix_seqK (K := K) rfl) (pv 1) pe_int (fun _ _ => rfl)) (pe_ix (ix_seqK (K := K) rfl) (pv 2) pe_int (fun _ _ => rfl)) (nomark _)))) pa_nil))))), ?_⟩
    refine ⟨_, rfl, v, d, 400, rfl, hv, fun H1 s1 => ⟨_, rfl, ?_⟩⟩
    by_cases cl : d.listed 400 = true
    · refine iteN (by rw [cl]; rfl) ?_
      obtain ⟨l, hd⟩ : ∃ l, d.parts = some l := by
        cases hp : d.parts with
        | some l => exact ⟨l, rfl⟩
        | none =>
          unfold Dat.listed at cl
          rw [hp] at cl
          cases cl
      obtain ⟨a, xs, rfl, hx, hp⟩ := hv.seq hd
      have lx : xs.length = l.length := Paired.len hp
      obtain ⟨l5, fit⟩ := fit l hd
      have l4 : (l.length : Int) ≤ 400 := by
        unfold Dat.listed at cl
        rw [hd] at cl
        exact of_decide_eq_true cl
      have e0 : d.seq = (l.all Dat.run && ((List.range (l.length - 1)).map (stepB l)).all id) := by
        unfold Dat.seq
        rw [hd]
        show (decide _ && _) = _
        rw [decide_eq_true l4]
        rfl
      rw [e0] at q
      refine ⟨a, xs, rfl, hx.same s1, fun J wk L nL => lc_wk wk (fun i H' => Same H1 H' ∧ H' L = some (.lst (((l.take i).map Dat.run).map V.bl))) (fun _ _ p => p.1) ⟨same_upd nL, upd_same⟩ (fun i x H2 ex p => ?_) (fun H2 p => ?_)⟩
      · obtain ⟨sm, hL⟩ := p
        obtain ⟨r, er, hr1⟩ := Paired.at hp ex
        have hi : i < xs.length := (List.getElem?_eq_some_iff.mp ex).1
        refine ⟨rfl, yesT ⟨_, rfl, x, r, rfl, hr1.same (s1.trans sm), fit r (List.mem_of_getElem? er), fun H3 s3 => ⟨_, s3 _ _ hL, ?_, same_grow nL (sm.trans s3), ?_⟩⟩⟩
        · simp only [List.length_map, List.length_take]
          exact small (by omega)
        · rw [upd_same, take_snoc er, List.map_append, List.map_append]
          rfl
      · rw [lx, List.take_length] at p
        refine ⟨L, _, rfl, .of p.2, _, rfl, ?_⟩
        rw [all_map]
        have s2 : Same H H2 := s1.trans p.1
        by_cases ca : l.all Dat.run = true
        · rw [ca] at q
          refine iteN (by rw [ca]; rfl) ?_
          have rok : ∀ (i : Nat) (x : Dat), l[i]? = some x → x.run = true := fun i x h => List.all_eq_true.mp ca x (List.mem_of_getElem? h)
          refine ⟨a, xs, rfl, hx.same s2, fun J Hc sc wk M nM => ?_⟩
          have sA : Same H Hc := s2.trans sc
          refine lc_gen (n := xs.length - 1) (fun i H' => Same Hc H' ∧ H' M = some (.lst (((List.range i).map (stepB l)).map V.bl))) ⟨same_upd nM, upd_same⟩ (fun i H' hi p => wk.go i H' p.1 (by omega)) (fun H' p => wk.stop H' p.1) (fun i x H3 H4 hi p y => ?_) (fun H' p => ?_)
          · obtain ⟨T', x1, x2, rfl, nT, rfl, g1, g2⟩ := wk.yld i x H3 H4 p.1 y
            obtain ⟨sm, hM⟩ := p
            have g2 := g2 (by omega)
            have sB : Same H H3 := sA.trans sm
            obtain ⟨r1, e1, v1⟩ := Paired.at hp g1
            obtain ⟨r2, e2, v2⟩ := Paired.at hp g2
            obtain ⟨z1, y1, t1, k1⟩ := run_two (rok _ _ e1)
            obtain ⟨z2, y2, t2, k2⟩ := run_two (rok _ _ e2)
            obtain ⟨a1, u1, u1', rfl, w1, m1, _⟩ := (v1.same (sB.trans (same_upd (o := .tup [x1, x2]) nT))).two t1
            obtain ⟨a2, u2, u2', rfl, w2, m2, _⟩ := (v2.same (sB.trans (same_upd (o := .tup [_, x2]) nT))).two t2
            cases m1
            cases m2
            refine ⟨T', _, rfl, .of upd_same, rfl, _, _, rfl, _, _, rfl, rfl, rfl, yesT ?_⟩
            refine ⟨_, rfl, ix0 w1 ⟨_, rfl, ix0 w2 ⟨rfl, _, same_upd nT _ _ hM, ?_, same_grow nM (sm.trans (same_upd nT)), ?_⟩⟩⟩
            · simp only [List.length_map, List.length_range]
              exact small (by omega)
            · rw [upd_same, range_snoc, List.map_append]
              have eb : stepB l i = !decide (V.str z1 = V.str z2) := by
                unfold stepB keyAt
                rw [e1, e2]
                show (!decide (V.str r1.key = V.str r2.key)) = _
                rw [k1, k2]
              rw [← eb]
              rfl
          · refine ⟨M, _, rfl, .of p.2, ?_⟩
            rw [lx]
            exact q _ (sA.trans p.1)
        · have ca : l.all Dat.run = false := by simpa using ca
          rw [ca] at q
          exact iteP (by rw [ca]; rfl) (q _ s2)
    · have cl : d.listed 400 = false := by simpa using cl
      have e0 : d.seq = false := by
        unfold Dat.listed at cl
        unfold Dat.seq
        cases hp : d.parts with
        | none => rfl
        | some l =>
          rw [hp] at cl
          have cl : decide ((l.length : Int) ≤ 400) = false := cl
          show (decide _ && _) = false
          rw [cl]
          rfl
      rw [e0] at q
      exact iteP (by rw [cl]; rfl) (q _ s1)
end
end UP

set_option Elab.async false
set_option linter.all false
set_option maxRecDepth 100000
set_option maxHeartbeats 4000000
namespace UP
open PySem PySem.Spec PyProof.Rows L2
/-! ### functions that may raise -/
section
variable (P : Program) (w : World) (K : PySem.W.Frag) (mg : Str → Option Value) (base : Heap)
def HasX (k : Nat) (x : Str) (ps : List Str) (sp : Sp) : Prop :=
  ∃ f fd, mg x = some (.ref f) ∧ PySem.W.keepIn K (.ref f) = true ∧ Binds K fd ps [] ∧ FnOk P w K mg base (L2N.CX P w) k f fd ps sp
end
/-- the class x of errors stands at C -/
structure Ex (K : PySem.W.Frag) (mg : Str → Option Value) (x : Str) (C : Addr) : Prop where
  g : mg x = some (.ref C)
  x : PySem.W.excIn K C [.type "ValueError", .type "Exception", .type "BaseException", .type "object"] "ValueError.__new__" = true
  k : PySem.W.keepIn K (.ref C) = true
  b : PySem.W.subIn K (.ref C) (.type "BaseException") = some true
  t : PySem.W.typeIn K (.ref C) = some (.type "type")
/-! ### values that are runs, sequences, states -/
def Dat.rr (d : Dat) : Run := match d.two with
  | some (.str z, .int n) => (z, n)
  | _ => ("", 0)
def Dat.stt (d : Dat) : Option Run := match d with
  | .non => none
  | d => some d.rr
def Dat.runs (d : Dat) : List Run := match d.parts with
  | some l => l.map Dat.rr
  | none => []
theorem kind_ok {z : Str} (h : kindB z = true) : KindOk z := by
  unfold kindB at h
  have h := Bool.and_eq_true_iff.mp h
  have h1 := of_decide_eq_true h.1
  refine ⟨by omega, by omega, fun c hc => ?_⟩
  exact of_decide_eq_true (List.all_eq_true.mp h.2 c hc)
theorem run_str {d : Dat} (h : d.run = true) : ∃ z n, d.two = some (.str z, .int n) ∧ d.rr = (z, n) ∧ d.key = z ∧ KindOk z ∧ 1 ≤ n ∧ n ≤ 1000000000000000000000000000000 := by
  obtain ⟨z, y, ht, hk⟩ := run_two h
  unfold Dat.run at h
  rw [ht] at h
  have h := Bool.and_eq_true_iff.mp (show (kindB z && y.inI 1 1000000000000000000000000000000) = true from h)
  cases y with
  | int n =>
    have h2 : 1 ≤ n ∧ n ≤ 1000000000000000000000000000000 := of_decide_eq_true h.2
    exact ⟨z, n, ht, by unfold Dat.rr; rw [ht], hk, kind_ok h.1, h2.1, h2.2⟩
  | _ => cases h.2
theorem run_rp {H : Hp} {v : V} {d : Dat} (hv : Rp H v d) (h : d.run = true) : RunG H v d.rr ∧ RunOk d.rr := by
  obtain ⟨z, n, ht, hr, _, k, n1, n2⟩ := run_str h
  obtain ⟨a, vx, vy, rfl, hs, hx, hy⟩ := hv.two ht
  cases hx
  cases hy
  rw [hr]
  exact ⟨⟨a, rfl, hs⟩, k, n1, n2⟩
theorem seq_rp {H : Hp} {v : V} {d : Dat} (hv : Rp H v d) (h : d.seq = true) : RunsG H v d.runs ∧ SeqOk d.runs := by
  cases hd : d.parts with
  | none =>
    unfold Dat.seq at h
    rw [hd] at h
    cases h
  | some l =>
    unfold Dat.seq at h
    rw [hd] at h
    have h := Bool.and_eq_true_iff.mp (show (decide ((l.length : Int) ≤ 400) && (l.all Dat.run && ((List.range (l.length - 1)).map (stepB l)).all id)) = true from h)
    have h1 := of_decide_eq_true h.1
    have h2 := Bool.and_eq_true_iff.mp h.2
    have er : d.runs = l.map Dat.rr := by unfold Dat.runs; rw [hd]
    rw [er]
    obtain ⟨a, xs, rfl, hx, hp⟩ := hv.seq hd
    have ra : ∀ x ∈ l, x.run = true := fun x hx => List.all_eq_true.mp h2.1 x hx
    have pair : ∀ {xs : List V} {l : List Dat}, Paired (Rp H) xs l → (∀ x ∈ l, x.run = true) → Paired (RunG H) xs (l.map Dat.rr) := by
      intro xs l hp
      induction hp with
      | nil => intro _; exact .nil
      | cons h _ ih =>
        intro k
        exact .cons (run_rp h (k _ (List.mem_cons_self ..))).1 (ih fun x hx => k x (List.mem_cons_of_mem _ hx))
    refine ⟨⟨a, xs, rfl, hx, pair hp ra⟩, by rw [List.length_map]; omega, fun r hr => ?_, fun i x y ex ey => ?_⟩
    · obtain ⟨e, he, rfl⟩ := List.mem_map.mp hr
      obtain ⟨z, n, _, hr, _, k, n1, n2⟩ := run_str (ra e he)
      rw [hr]
      exact ⟨k, n1, n2⟩
    · rw [List.getElem?_map] at ex ey
      cases e1 : l[i]? with
      | none => rw [e1] at ex; cases ex
      | some p =>
        cases e2 : l[i + 1]? with
        | none => rw [e2] at ey; cases ey
        | some p2 =>
          rw [e1] at ex
          rw [e2] at ey
          cases ex
          cases ey
          have hi : i < l.length - 1 := by
            have := (List.getElem?_eq_some_iff.mp e2).1
            omega
          have st := List.all_eq_true.mp h2.2 (stepB l i) (List.mem_map.mpr ⟨i, List.mem_range.mpr hi, rfl⟩)
          obtain ⟨z1, n1, _, r1, k1, _⟩ := run_str (ra p (List.mem_of_getElem? e1))
          obtain ⟨z2, n2, _, r2, k2, _⟩ := run_str (ra p2 (List.mem_of_getElem? e2))
          unfold stepB keyAt at st
          rw [e1, e2] at st
          have st : (!decide (V.str p.key = V.str p2.key)) = true := st
          rw [k1, k2] at st
          rw [r1, r2]
          intro z
          have z : z1 = z2 := z
          rw [z, decide_eq_true rfl] at st
          cases st
theorem state_rp {H : Hp} {v : V} {d : Dat} (hv : Rp H v d) (h : d.state = true) : StG H v d.stt ∧ ∀ r, d.stt = some r → KindOk r.1 ∧ 1 ≤ r.2 := by
  by_cases dn : d = .non
  · subst dn
    cases hv
    exact ⟨rfl, fun r hr => by cases hr⟩
  have e0 : d.state = match d.two with
    | some (x, y) => x.kind && y.pos
    | none => false := by
    cases d with
    | non => exact absurd rfl dn
    | _ => rfl
  have e1 : d.stt = some d.rr := by
    cases d with
    | non => exact absurd rfl dn
    | _ => rfl
  rw [e0] at h
  rw [e1]
  cases ht : d.two with
  | none => rw [ht] at h; cases h
  | some p =>
    obtain ⟨x, y⟩ := p
    rw [ht] at h
    have h := Bool.and_eq_true_iff.mp (show (x.kind && y.pos) = true from h)
    obtain ⟨a, vx, vy, rfl, hs, hx, hy⟩ := hv.two ht
    cases hx with
    | str z =>
      cases hy with
      | int n =>
        have er : d.rr = (z, n) := by unfold Dat.rr; rw [ht]
        rw [er]
        exact ⟨⟨a, rfl, hs⟩, fun r hr => by cases hr; exact ⟨kind_ok h.1, of_decide_eq_true h.2⟩⟩
      | _ => cases h.2
    | _ => cases h.1
section
variable {P : Program} {w : World} {K : PySem.W.Frag} {mg : Str → Option Value} {base : Heap}
theorem hasX_of {x : Str} {st : Stmt} {ps N : List Str} {k : Nat} {sp : Sp} (D : Df K mg x st) (S : FnScope N ps (defScope st))
    (hb : ∀ (kV doc pm : Value) (an : Option Addr) (cdv ct : Value) (us : List Value), us.length = ps.length → bindArgs (PySem.W.fnOf x x (defArgs st) (defBody st) (defScope st) .none kV doc pm an cdv ct) ⟨us, []⟩ = pure (ps.zip us))
    (len : ∀ vs H Q E, sp vs H Q E → vs.length = ps.length)
    (body : ∀ (f : Addr) (cdv : Value) (A : Around) (outer : List Env) (s : Shared) (H : Hp) (vs : List V) (Q : VK) (E : XK), Room k (A.deeper (envOfC x (defScope st) s.heap.objs.size f cdv)) → sp vs H Q E →
      ∃ t, PSs (cxOf (L2N.CX P w) P w K mg base N x (defScope st) f cdv A outer s H E) (defBody st) t ∧ t { nx := fun _ H' => Q .non H', rt := Q } (start N vs) H) :
    HasX P w K mg base (k + 1) x ps sp := by
  obtain ⟨f, fd, g, F⟩ := D
  exact ⟨f, fd, g, F.kp, F.binds hb, okXN F S len fun cdv A outer s H vs Q E hr h => body f cdv A outer s H vs Q E hr h⟩
/-! checked_state: slots 0:state -/
abbrev s_checked_state : Stmt := topS 34
theorem sc_checked_state : FnScope ["state"] ["state"] (defScope s_checked_state) := ⟨rfl, rfl, rfl, by decide +kernel, rfl, by decide +kernel, by decide +kernel⟩
def sp_checked_state (C : Addr) : Sp := fun vs H Q E => ∃ (v : V) (d : Dat), vs = [v] ∧ Rp H v d ∧ d.fit2 ∧ (d.state = true → ∀ H' v', Same H H' → StV H' v' d.stt → Q v' H') ∧ (d.state = false → ∀ H', Same H H' → E (.ref C) none H')
theorem ok_checked_state {C : Addr} (D : Df K mg "checked_state" s_checked_state) (T : Tx mg) (X1 : Ex K mg "InvalidState" C) (G_is_state : Has P w K mg base 2 "is_state" ["value"] sp_is_state) : HasX P w K mg base 3 "checked_state" ["state"] (sp_checked_state C) := by
  refine hasX_of D sc_checked_state (fun _ _ _ _ _ _ us hl => match us, hl with | [_], _ => rfl) (fun vs H Q E h => ?_) (fun f cdv A outer s H vs Q E hr h => ?_)
  · obtain ⟨v, r, rfl, _⟩ := h
    rfl
  · obtain ⟨v, d, rfl, hv, fit, q, qe⟩ := h
    refine ⟨_, (pss_cons (ps_if (pt_not (pt_val (pe_callH G_is_state (hr.mono (by omega)) (by rfl) (pa_cons (pv 0) pa_nil)))) (pss_one (L2N.ps_raise rfl (L2N.takes_of rfl rfl rfl rfl) (L2N.pmk_own PySem.F.excBase_ValueError X1.x X1.g X1.k (raises_own X1.b X1.t) (by exact rfl)))) pss_nil)
    (pss_one (ps_ret (pe_ifExp (pt_cmpR op_isN (pv 0) pe_non (nomark _)) pe_non (pe_callTy call_tuple_of (by rfl) T.n_tuple (by decide +kernel) (pa_cons (pv 0) pa_nil)))))), ?_⟩
    refine ⟨_, rfl, v, d, rfl, hv, fit, fun H1 s1 => ⟨_, rfl, ?_⟩⟩
    by_cases cs : d.state = true
    · refine iteN (by rw [cs]; rfl) ?_
      have hv1 := hv.same s1
      obtain ⟨hg, _⟩ := state_rp hv1 cs
      have q := q cs
      cases hst : d.stt with
      | none =>
        rw [hst] at hg q
        have hg : v = .non := hg
        subst hg
        exact ⟨_, rfl, rfl, _, rfl, iteP rfl (q H1 _ s1 rfl)⟩
      | some r =>
        rw [hst] at hg q
        obtain ⟨t, rfl, ht⟩ := hg
        refine ⟨_, rfl, rfl, _, rfl, iteN rfl ⟨_, rfl, t, [.str r.1, .int r.2], rfl, ?_⟩⟩
        rcases ht with z | z
        · exact .inl ⟨.of z, fun l nl => q _ _ (s1.trans (same_upd nl)) ⟨l, rfl, upd_same⟩⟩
        · exact .inr ⟨.of z, q H1 _ s1 ⟨t, rfl, z⟩⟩
    · have cs : d.state = false := by simpa using cs
      exact iteP (by rw [cs]; rfl) (qe cs _ s1)
end
end UP

set_option Elab.async false
set_option linter.all false
set_option maxRecDepth 100000
set_option maxHeartbeats 4000000
namespace UP
open PySem PySem.Spec PyProof.Rows L2
section
variable {P : Program} {w : World} {K : PySem.W.Frag} {mg : Str → Option Value} {base : Heap}
/-! checked_runs: slots 0:sequence 1:kind 2:count -/
abbrev s_checked_runs : Stmt := topS 33
theorem sc_checked_runs : FnScope ["sequence", "kind", "count"] ["sequence"] (defScope s_checked_runs) := ⟨rfl, rfl, rfl, by decide +kernel, rfl, by decide +kernel, by decide +kernel⟩
def sp_checked_runs (C : Addr) : Sp := fun vs H Q E => ∃ (v : V) (d : Dat), vs = [v] ∧ Rp H v d ∧ d.fits ∧ (d.seq = true → ∀ H' p, Same H H' → H p = none → Runs H' p d.runs → Q (.ref p) H') ∧ (d.seq = false → ∀ H', Same H H' → E (.ref C) none H')
theorem ok_checked_runs {C : Addr} (D : Df K mg "checked_runs" s_checked_runs) (T : Tx mg) (X1 : Ex K mg "InvalidSequence" C) (G_is_sequence : Has P w K mg base 4 "is_sequence" ["value"] sp_is_sequence) :
    HasX P w K mg base 5 "checked_runs" ["sequence"] (sp_checked_runs C) := by
  refine hasX_of D sc_checked_runs (fun _ _ _ _ _ _ us hl => match us, hl with | [_], _ => rfl) (fun vs H Q E h => ?_) (fun f cdv A outer s H vs Q E hr h => ?_)
  · obtain ⟨v, r, rfl, _⟩ := h
    rfl
  · obtain ⟨v, d, rfl, hv, fit, q, qe⟩ := h
    refine ⟨_, (pss_cons (ps_if (pt_not (pt_val (pe_callH G_is_sequence (hr.mono (by omega)) (by rfl) (pa_cons (pv 0) pa_nil)))) (pss_one (L2N.ps_raise rfl (L2N.takes_of rfl rfl rfl rfl) (L2N.pmk_own PySem.F.excBase_ValueError X1.x X1.g X1.k (raises_own X1.b X1.t) (by exact rfl)))) pss_nil)
    (pss_one (ps_ret (pe_lc (own := [("kind", 1), ("count", 2)]) rfl sc_checked_runs.nd (pi_seqV 0) (blkOk_by (N := ["sequence", "kind", "count"]) (sc := defScope s_checked_runs) (by decide +kernel)) (fun _ _ _ _ _ => (pg_any (n := 2) rfl (pgs_cons (pg_name (i := 1) sc_checked_runs.nd rfl (by first | exact Or.inl rfl | exact Or.inr rfl)) (pgs_cons (pg_name (i := 2) sc_checked_runs.nd rfl (by first | exact Or.inl rfl | exact Or.inr rfl)) pgs_nil)))) (fun _ _ _ _ _ => pts_nil) (fun _ _ _ _ _ => (pe_tup (pa_cons (pv 1) (pa_cons (pv 2) pa_nil)))))))), ?_⟩
    refine ⟨_, rfl, v, d, rfl, hv, fit, fun H1 s1 => ⟨_, rfl, ?_⟩⟩
    by_cases cs : d.seq = true
    · refine iteN (by rw [cs]; rfl) ?_
      have q := q cs
      obtain ⟨hR, ok⟩ := seq_rp hv cs
      generalize d.runs = rs at *
      obtain ⟨a, xs, rfl, hx, hp⟩ := hR
      have lx : xs.length = rs.length := Paired.len hp
      refine ⟨a, xs, rfl, hx.same s1, fun J wk L nL => lc_wk wk (fun i H' => Same H1 H' ∧ ∃ ys, H' L = some (.lst ys) ∧ Paired (RunV H') ys (rs.take i)) (fun _ _ p => p.1) ⟨same_upd nL, [], upd_same, .nil⟩ (fun i x H2 ex p => ?_) (fun H2 p => ?_)⟩
      · obtain ⟨sm, ys, hL, hy⟩ := p
        obtain ⟨r, er, hr1⟩ := Paired.at hp ex
        have hi : i < xs.length := (List.getElem?_eq_some_iff.mp ex).1
        obtain ⟨t, rfl, ht⟩ := RunG.same (s1.trans sm) hr1
        refine ⟨t, _, rfl, ht, rfl, _, _, rfl, _, _, rfl, rfl, rfl, yesT ⟨_, rfl, _, rfl, (by show 2 ≤ sizeLine; decide), fun n nn => ⟨_, same_upd nn _ _ hL, ?_, same_grow nL (sm.trans (same_upd nn)), _, upd_same, ?_⟩⟩⟩
        · have := Paired.len hy
          rw [List.length_take] at this
          exact small (by have := ok.1; omega)
        · rw [take_snoc er]
          refine Paired.app (prs_grow (same_upd nn _ _ hL) (prs_same (same_upd nn) hy)) (.cons ?_ .nil)
          exact RunV.grow (same_upd nn _ _ hL) ⟨n, rfl, upd_same⟩
      · obtain ⟨sm, ys, hL, hy⟩ := p
        rw [lx, List.take_length] at hy
        exact q H2 L (s1.trans sm) (s1.free nL) ⟨ys, hL, hy⟩
    · have cs : d.seq = false := by simpa using cs
      exact iteP (by rw [cs]; rfl) (qe cs _ s1)
end
end UP

set_option Elab.async false
set_option linter.all false
set_option maxRecDepth 100000
set_option maxHeartbeats 4000000
set_option pp.maxSteps 600
namespace UP
open PySem PySem.Spec PyProof.Rows L2
/-! ### entries and records among values of any form -/
def Dat.act : Dat → Bool
  | .str z => decide (z = "waits") || decide (z = "leaves")
  | _ => false
def Dat.none0 : Dat → Bool
  | .non => true
  | _ => false
def Dat.entry (d : Dat) : Bool := match d.two with
  | some (x, y) => (x.none0 || x.kind) && y.act
  | none => false
def Dat.recd (d : Dat) : Bool := match d.parts with
  | some l => decide ((l.length : Int) ≤ 400) && l.all Dat.entry
  | none => false
theorem in_act {z : Str} : inV (.str z) [.str "waits", .str "leaves"] = (Dat.str z).act := by
  show inV _ _ = (decide (z = "waits") || decide (z = "leaves"))
  unfold inV
  by_cases a : z = "waits"
  · subst a
    decide +kernel
  · by_cases b : z = "leaves"
    · subst b
      decide +kernel
    · rw [decide_eq_false a, decide_eq_false b]
      simp [a, b, List.any]
      exact ⟨decide_eq_false fun e => a e.symm, decide_eq_false fun e => b e.symm⟩
section
variable {P : Program} {w : World} {K : PySem.W.Frag} {mg : Str → Option Value} {base : Heap}
/-! is_entry: slots 0:value -/
abbrev s_is_entry : Stmt := topS 37
theorem sc_is_entry : FnScope ["value"] ["value"] (defScope s_is_entry) := ⟨rfl, rfl, rfl, by decide +kernel, rfl, by decide +kernel, by decide +kernel⟩
def sp_is_entry : Sp := fun vs H Q _ => ∃ (v : V) (d : Dat), vs = [v] ∧ Rp H v d ∧ d.fit2 ∧ ∀ H', Same H H' → Q (.bl d.entry) H'
theorem ok_is_entry (D : Df K mg "is_entry" s_is_entry) (T : Tx mg) (G_is_couple : Has P w K mg base 1 "is_couple" ["value"] sp_is_couple) (G_is_kind : Has P w K mg base 1 "is_kind" ["value"] sp_is_kind) : Has P w K mg base 2 "is_entry" ["value"] sp_is_entry := by
  refine has_of D sc_is_entry (fun _ _ _ _ _ _ us hl => match us, hl with | [_], _ => rfl) (fun vs H Q E h => ?_) (fun f cdv A outer s H vs Q E hr h => ?_)
  · obtain ⟨v, d, rfl, _⟩ := h
    rfl
  · obtain ⟨v, d, rfl, hv, fit, q⟩ := h
    refine ⟨_, (pss_cons (ps_if (PW.pt (pw_or (pt_not (pt_val (pe_callH G_is_couple (hr.mono (by omega)) (by rfl) (pa_cons (pv 0) pa_nil)))) (pw_or1 (pt_not (pt_val (pe_callB call_isi (by rfl) T.n_isinstance (by decide +kernel) (pa_cons (pe_ix ix_seq (pv 0) pe_int (fun _ _ => rfl)) (pa_cons (pe_bltn (v := .ty "str") (by rfl) T.n_str (by decide +kernel) rfl) pa_nil)))))))) (pss_one (ps_ret pe_bl)) pss_nil)
    (pss_one (ps_ret (pe_and (pe_or (pe_cmpR op_isN (pe_ix ix_seq (pv 0) pe_int (fun _ _ => rfl)) pe_non (nomark _)) (pe_one (pe_callH G_is_kind (hr.mono (by omega)) (by rfl) (pa_cons (pe_ix ix_seq (pv 0) pe_int (fun _ _ => rfl)) pa_nil)))) (pe_one (pe_cmpR op_in_seq (pe_ix ix_seq (pv 0) pe_int (fun _ _ => rfl)) (pe_tup (pa_cons pe_str (pa_cons pe_str pa_nil))) (by with_unfolding_all rfl))))))), ?_⟩
    refine ⟨_, rfl, v, d, rfl, hv, fun H1 s1 => ⟨d.couple, rfl, ?_⟩⟩
    cases ht : d.two with
    | none =>
      have e1 : d.couple = false := by rw [couple_two, ht]; rfl
      have e2 : d.entry = false := by unfold Dat.entry; rw [ht]
      rw [e2] at q
      exact iteP (by rw [e1]; rfl) (q _ s1)
    | some p =>
      obtain ⟨x, y⟩ := p
      have e1 : d.couple = true := by rw [couple_two, ht]; rfl
      have e2 : d.entry = ((x.none0 || x.kind) && y.act) := by unfold Dat.entry; rw [ht]
      rw [e2] at q
      obtain ⟨a, vx, vy, rfl, hs, hx, hy⟩ := hv.two ht
      refine iteN (by rw [e1]; rfl) ?_
      have hs1 := hs.same s1
      by_cases hn : ∀ z, y ≠ .str z
      · obtain ⟨t, h1, h2⟩ := kitS (K := K) (hy.same s1) hn
        have ea : y.act = false := by
          cases y with
          | str z => exact absurd rfl (hn z)
          | _ => rfl
        rw [ea, Bool.and_false] at q
        exact ⟨_, rfl, ix1 hs1 ⟨_, _, _, _, false, rfl, .ty "str", h1, h2, false, rfl, iteT (q _ s1)⟩⟩
      obtain ⟨z, rfl⟩ : ∃ z, y = .str z := by
        apply Classical.byContradiction
        intro c
        exact hn fun z e => c ⟨z, e⟩
      cases hy
      refine ⟨_, rfl, ix1 hs1 ⟨_, _, _, _, true, rfl, .ty "str", .base (.str _), kit_ty (by decide +kernel), true, rfl, iteF ?_⟩⟩
      have fin : ∀ H2 t2, Same H H2 → H2 t2 = none → (x.none0 || x.kind) = true → Q (.bl (inV (.str z) [.str "waits", .str "leaves"])) (upd H2 t2 (.tup [.str "waits", .str "leaves"])) := fun H2 t2 s2 n2 e => by
        rw [in_act]
        rw [e, Bool.true_and] at q
        exact q _ (s2.trans (same_upd n2))
      by_cases hx0 : vx = .non
      · subst hx0
        have ex : x = .non := by cases hx with | non => rfl
        subst ex
        refine ⟨_, rfl, ix0 hs1 ⟨rfl, true, rfl, iteT ?_⟩⟩
        exact ⟨true, rfl, iteT ⟨_, rfl, ix1 hs1 ⟨(by show 2 ≤ sizeLine; decide), fun t2 n2 => ⟨t2, _, rfl, .inr (.of upd_same), rfl, rfl, fin _ t2 s1 n2 rfl⟩⟩⟩⟩
      · have en : x.none0 = false := by
          cases hx with
          | non => exact absurd rfl hx0
          | _ => rfl
        rw [en, Bool.false_or] at q fin
        refine ⟨_, rfl, ix0 hs1 ⟨rfl, _, rfl, iteN (decide_eq_false hx0) ?_⟩⟩
        refine ⟨_, rfl, ix0 hs1 ⟨vx, x, rfl, hx.same s1, fit x _ ht, fun H2 s2 => ⟨x.kind, rfl, ?_⟩⟩⟩
        by_cases ck : x.kind = true
        · refine iteP ck ?_
          exact ⟨_, rfl, ix1 (hs1.same s2) ⟨(by show 2 ≤ sizeLine; decide), fun t2 n2 => ⟨t2, _, rfl, .inr (.of upd_same), rfl, rfl, fin _ t2 (s1.trans s2) n2 ck⟩⟩⟩
        · have ck : x.kind = false := by simpa using ck
          refine iteN ck ?_
          rw [ck, Bool.false_and] at q
          exact q _ (s1.trans s2)
/-! is_record: slots 0:value 1:entry -/
abbrev s_is_record : Stmt := topS 38
theorem sc_is_record : FnScope ["value", "entry"] ["value"] (defScope s_is_record) := ⟨rfl, rfl, rfl, by decide +kernel, rfl, by decide +kernel, by decide +kernel⟩
def sp_is_record : Sp := fun vs H Q _ => ∃ (v : V) (d : Dat), vs = [v] ∧ Rp H v d ∧ d.fits ∧ ∀ H', Same H H' → Q (.bl d.recd) H'
theorem ok_is_record (D : Df K mg "is_record" s_is_record) (T : Tx mg) (G_is_listed : Has P w K mg base 1 "is_listed" ["value", "most"] sp_is_listed) (G_is_entry : Has P w K mg base 2 "is_entry" ["value"] sp_is_entry) : Has P w K mg base 3 "is_record" ["value"] sp_is_record := by
  refine has_of D sc_is_record (fun _ _ _ _ _ _ us hl => match us, hl with | [_], _ => rfl) (fun vs H Q E h => ?_) (fun f cdv A outer s H vs Q E hr h => ?_)
  · obtain ⟨v, r, rfl, _⟩ := h
    rfl
  · obtain ⟨v, d, rfl, hv, fit, q⟩ := h
    refine ⟨_, (pss_one (ps_ret (pe_and (pe_callH G_is_listed (hr.mono (by omega)) (by rfl) (pa_cons (pv 0) (pa_cons (pe_glI T.c_MAX_ENTRIES (by rfl)) pa_nil))) (pe_one (pe_callB (cr_all rfl) (by rfl) T.n_all (by decide +kernel) (pa_cons (pe_lc (own := [("entry", 1)]) rfl sc_is_record.nd (pi_seqV 0) (blkOk_by (N := ["value", "entry"]) (sc := defScope s_is_record) (by decide +kernel)) (fun _ _ _ _ _ => (pg_name (i := 1) sc_is_record.nd rfl (by first | exact Or.inl rfl | exact Or.inr rfl))) (fun _ _ _ _ _ => pts_nil) (fun _ _ _ _ _ => (pe_callH G_is_entry (hr.mono (by omega)) (by rfl) (pa_cons (pv 1) pa_nil)))) pa_nil)))))), ?_⟩
    refine ⟨_, rfl, v, d, 400, rfl, hv, fun H1 s1 => ⟨_, rfl, ?_⟩⟩
    by_cases cl : d.listed 400 = true
    · refine iteP cl ?_
      obtain ⟨l, hd⟩ : ∃ l, d.parts = some l := by
        cases hp : d.parts with
        | some l => exact ⟨l, rfl⟩
        | none =>
          unfold Dat.listed at cl
          rw [hp] at cl
          cases cl
      obtain ⟨a, xs, rfl, hx, hp⟩ := hv.seq hd
      have lx : xs.length = l.length := Paired.len hp
      obtain ⟨l5, fit⟩ := fit l hd
      have l4 : (l.length : Int) ≤ 400 := by
        unfold Dat.listed at cl
        rw [hd] at cl
        exact of_decide_eq_true cl
      have e0 : d.recd = l.all Dat.entry := by
        unfold Dat.recd
        rw [hd]
        show (decide _ && _) = _
        rw [decide_eq_true l4]
        rfl
      rw [e0] at q
      refine ⟨a, xs, rfl, hx.same s1, fun J wk L nL => lc_wk wk (fun i H' => Same H1 H' ∧ H' L = some (.lst (((l.take i).map Dat.entry).map V.bl))) (fun _ _ p => p.1) ⟨same_upd nL, upd_same⟩ (fun i x H2 ex p => ?_) (fun H2 p => ?_)⟩
      · obtain ⟨sm, hL⟩ := p
        obtain ⟨r, er, hr1⟩ := Paired.at hp ex
        have hi : i < xs.length := (List.getElem?_eq_some_iff.mp ex).1
        refine ⟨rfl, yesT ⟨_, rfl, x, r, rfl, hr1.same (s1.trans sm), fit r (List.mem_of_getElem? er), fun H3 s3 => ⟨_, s3 _ _ hL, ?_, same_grow nL (sm.trans s3), ?_⟩⟩⟩
        · simp only [List.length_map, List.length_take]
          exact small (by omega)
        · rw [upd_same, take_snoc er, List.map_append, List.map_append]
          rfl
      · rw [lx, List.take_length] at p
        refine ⟨L, _, rfl, .of p.2, ?_⟩
        rw [all_map]
        exact q _ (s1.trans p.1)
    · have cl : d.listed 400 = false := by simpa using cl
      have e0 : d.recd = false := by
        unfold Dat.recd
        unfold Dat.listed at cl
        cases hp : d.parts with
        | none => rfl
        | some l =>
          rw [hp] at cl
          have cl : decide ((l.length : Int) ≤ 400) = false := cl
          show (decide _ && _) = _
          rw [cl]
          rfl
      rw [e0] at q
      exact iteN cl (q _ s1)
end
end UP

set_option Elab.async false
set_option linter.all false
set_option maxRecDepth 100000
set_option maxHeartbeats 4000000
set_option pp.maxSteps 600
namespace UP
open PySem PySem.Spec PyProof.Rows L2
def nS (n : Int) : Str := Str.ofString (toString n)
theorem nS_len {n : Int} (h : 0 ≤ n) (l : n < 10000000000000000000000000000000000000000) : (nS n).length ≤ 40 := by
  obtain ⟨k, rfl⟩ : ∃ k : Nat, n = k := ⟨n.toNat, by omega⟩
  rw [TL.len_tl, show TL.tl (nS (k : Int)) = TL.numL k from TL.tl_num k]
  refine TL.numL_len (by decide) ?_
  have : (10 : Nat) ^ 40 = 10000000000000000000000000000000000000000 := by decide +kernel
  rw [this]
  omega
theorem str_app_len (a b : Str) : (a ++ b).length = a.length + b.length := by
  rw [TL.len_tl, TL.tl_append, List.length_append, ← TL.len_tl, ← TL.len_tl]
theorem star_len : ("*" : Str).length = 1 := by decide +kernel
theorem blank_len : (" " : Str).length = 1 := by decide +kernel
theorem log_bd40 {i : Int} (h0 : 0 ≤ i) (h1 : i ≤ 10000000000000000000000000000000000000000) : i.natAbs.log2 < 1920 := by
  have h : i.natAbs < 2 ^ 1920 := Nat.lt_of_le_of_lt (m := 10000000000000000000000000000000000000000) (by omega) (by decide +kernel)
  by_cases c : i.natAbs = 0
  · rw [c]
    decide
  · exact (Nat.log2_lt c).mpr h
theorem nI {r k : Int} (h : r ≠ k) : decide (V.int r = V.int k) = false := decide_eq_false (fun e => h (V.int.inj e))
theorem sum_le {ws : List Str} {n : Nat} (h : ∀ w ∈ ws, w.length ≤ n) : (ws.map (·.length)).sum ≤ n * ws.length := by
  induction ws with
  | nil => exact Nat.zero_le _
  | cons p t ih =>
    have h1 := h p (List.mem_cons_self ..)
    have h2 := ih fun w hw => h w (List.mem_cons_of_mem _ hw)
    show p.length + (t.map (·.length)).sum ≤ n * (t.length + 1)
    rw [Nat.mul_succ]
    omega
def Wds (ws : List Str) (i : Nat) : Prop := ws.length = i ∧ ∀ w ∈ ws, w.length ≤ 60
theorem Wds.nil : Wds [] 0 := ⟨rfl, fun _ h => by cases h⟩
theorem Wds.snoc {ws : List Str} {i : Nat} {z : Str} (h : Wds ws i) (l : z.length ≤ 60) : Wds (ws ++ [z]) (i + 1) := ⟨by rw [List.length_append, h.1]; rfl, fun w hw => (List.mem_append.mp hw).elim (h.2 w) fun e => by rw [List.mem_singleton.mp e]; exact l⟩
theorem Wds.sum {ws : List Str} {i : Nat} (h : Wds ws i) (l : i ≤ 400) : (ws.map (·.length)).sum + ws.length * (" " : Str).length ≤ 16777216 := by
  have h2 := sum_le h.2
  have h1 := h.1
  rw [blank_len]
  omega
section
variable {X : Cx}
/-- a call that may raise, in a def that may -/
theorem pe_callXH {k : Nat} {x : Str} {ps : List Str} {sp : Sp} {W : WX} {p pos : Pos} {e : Expr} {es : List Expr} {t : TA} (G : HasX X.prog X.w X.K X.mg X.base k x ps sp) (tk : L2N.Takes X W) (hr : Room k X.A) (hg : Gl X x) (ha : PA X (e :: es) t)
    (hdb : (x == ("__debug__" : Str)) = false := by decide) (he : starEach (e :: es) X.env = (false, eval e X.env) :: starEach es X.env := by rfl) (hpl : (backTo pos (starEach es X.env)).any (·.1) = false := by rfl) :
    PE X (.Call (.Name x p) (e :: es) [] pos) (tCallS sp (WE W) t) := by
  obtain ⟨f, fd, g, kp, b, F⟩ := G
  exact pe_callS F hr hg g kp b (fun σ => L2N.passAt tk σ) ha hdb he hpl
end
section
variable {P : Program} {w : World} {K : PySem.W.Frag} {mg : Str → Option Value} {base : Heap}
/-! run_word: slots 0:run 1:kind 2:count -/
abbrev s_run_word : Stmt := topS 41
theorem sc_run_word : FnScope ["run", "kind", "count"] ["run"] (defScope s_run_word) := ⟨rfl, rfl, rfl, by decide +kernel, rfl, by decide +kernel, by decide +kernel⟩
def sp_run_word : Sp := fun vs H Q _ => ∃ (v : V) (r : Run), vs = [v] ∧ RunG H v r ∧ r.1.length ≤ 8 ∧ 1 ≤ r.2 ∧ r.2 ≤ 1000000000000000000000000000000000000000 ∧ ∀ z : Str, z.length ≤ 60 → Q (.str z) H
theorem ok_run_word (D : Df K mg "run_word" s_run_word) (T : Tx mg) : Has P w K mg base 1 "run_word" ["run"] sp_run_word := by
  refine has_of D sc_run_word (fun _ _ _ _ _ _ us hl => match us, hl with | [_], _ => rfl) (fun vs H Q E h => ?_) (fun f cdv A outer s H vs Q E hr h => ?_)
  · obtain ⟨_, _, rfl, _⟩ := h
    rfl
  · obtain ⟨v, r, rfl, ⟨t, rfl, ht⟩, l1, n1, n2, q⟩ := h
    have l2 := nS_len (n := r.2) (by omega) (by omega)
    refine ⟨_, (pss_cons (ps_asg (pv 0) (pg_any (n := 2) rfl (pgs_cons (pg_name (i := 1) sc_run_word.nd rfl (by first | exact Or.inl rfl | exact Or.inr rfl)) (pgs_cons (pg_name (i := 2) sc_run_word.nd rfl (by first | exact Or.inl rfl | exact Or.inr rfl)) pgs_nil))))
    (pss_one (ps_ret (pe_ifExp (pt_cmpR op_eq (pv 2) pe_int (nomark _)) (pv 1) (pe_joined (.cons (pe_fmt (pv 1)) (.cons pe_str (.cons (pe_fmt (pv 2)) .nil)))))))), ?_⟩
    refine ⟨_, rfl, t, _, rfl, ht, rfl, _, _, rfl, _, _, rfl, rfl, ?_⟩
    by_cases c : r.2 = 1
    · exact ⟨_, rfl, rfl, _, rfl, iteP (decide_eq_true (congrArg V.int c)) ⟨_, rfl, q _ (by omega)⟩⟩
    · refine ⟨_, rfl, rfl, _, rfl, iteN (nI c) ?_⟩
      have e1 : Str.empty ++ r.1 = r.1 := TL.ext_tl (by rw [TL.tl_append]; rfl)
      refine ⟨_, rfl, .inl ⟨r.1, rfl, smallE (by omega), r.1, rfl, smallE (by rw [e1]; omega), "*", rfl, smallE (by rw [e1, str_app_len, star_len]; omega), _, rfl, .inr ⟨r.2, rfl, log_bd40 (by omega) (by omega), nS r.2, rfl, smallE (by rw [e1, str_app_len, str_app_len, star_len]; omega), q _ ?_⟩⟩⟩
      rw [e1, str_app_len, str_app_len, star_len]
      omega
/-! format_sequence: slots 0:sequence 1:run -/
abbrev s_format_sequence : Stmt := topS 42
theorem sc_format_sequence : FnScope ["sequence", "run"] ["sequence"] (defScope s_format_sequence) := ⟨rfl, rfl, rfl, by decide +kernel, rfl, by decide +kernel, by decide +kernel⟩
def sp_format_sequence (C : Addr) : Sp := fun vs H Q E => ∃ (v : V) (d : Dat), vs = [v] ∧ Rp H v d ∧ d.fits ∧ (d.seq = true → ∀ H' z, Same H H' → Q (.str z) H') ∧ (d.seq = false → ∀ H', Same H H' → E (.ref C) none H')
theorem ok_format_sequence {C : Addr} (D : Df K mg "format_sequence" s_format_sequence) (G_checked_runs : HasX P w K mg base 5 "checked_runs" ["sequence"] (sp_checked_runs C)) (G_run_word : Has P w K mg base 1 "run_word" ["run"] sp_run_word) : HasX P w K mg base 6 "format_sequence" ["sequence"] (sp_format_sequence C) := by
  refine hasX_of D sc_format_sequence (fun _ _ _ _ _ _ us hl => match us, hl with | [_], _ => rfl) (fun vs H Q E h => ?_) (fun f cdv A outer s H vs Q E hr h => ?_)
  · obtain ⟨_, _, rfl, _⟩ := h
    rfl
  · obtain ⟨v, d, rfl, hv, fit, q, qe⟩ := h
    refine ⟨_, (pss_one (ps_ret (pe_join pe_str (pe_lc (own := [("run", 1)]) rfl sc_format_sequence.nd (pi_list (pe_callXH G_checked_runs (L2N.takes_of rfl rfl rfl rfl) (hr.mono (by omega)) (by rfl) (pa_cons (pv 0) pa_nil))) (blkOk_by (N := ["sequence", "run"]) (sc := defScope s_format_sequence) (by decide +kernel)) (fun _ _ _ _ _ => (pg_name (i := 1) sc_format_sequence.nd rfl (by first | exact Or.inl rfl | exact Or.inr rfl))) (fun _ _ _ _ _ => pts_nil) (fun _ _ _ _ _ => (pe_callH G_run_word (hr.mono (by omega)) (by rfl) (pa_cons (pv 1) pa_nil))))))), ?_⟩
    refine ⟨⟨_, rfl⟩, _, rfl, v, d, rfl, hv, fit, fun cs H1 p s1 np hR1 => ?_, fun cs H1 s1 => qe cs _ s1⟩
    obtain ⟨_, ok⟩ := seq_rp hv cs
    have q := q cs
    generalize d.runs = rs at *
    obtain ⟨xs, hx, hp⟩ := hR1
    have lx : xs.length = rs.length := Paired.len hp
    have l4 := ok.1
    refine ⟨p, rfl, ⟨xs, .of hx⟩, fun L nL => lc_list (K := K) (a := p) (xs := xs) (fun i H' => Same H1 H' ∧ ∃ ws, Wds ws i ∧ H' L = some (.lst (ws.map V.str))) ⟨same_upd nL, [], .nil, upd_same⟩ (fun i H' _ hP => .of (hP.1 _ _ hx)) (fun i x H2 ex hP => ?_) (fun H2 hP => ?_)⟩
    · obtain ⟨sm, ws, hw, hL⟩ := hP
      obtain ⟨r, er, hr1⟩ := Paired.at hp ex
      have hi : i < xs.length := (List.getElem?_eq_some_iff.mp ex).1
      have okr := ok.2.1 r (List.mem_of_getElem? er)
      refine ⟨rfl, yesT ⟨_, rfl, x, r, rfl, (RunV.same sm hr1).dress, okr.1.2.1, okr.2.1, by have := okr.2.2; omega, fun z lz => ⟨_, hL, ?_, same_grow nL sm, ws ++ [z], hw.snoc lz, ?_⟩⟩⟩
      · have := hw.1
        rw [List.length_map]
        exact small (by omega)
      · rw [upd_same, List.map_append]
        rfl
    · obtain ⟨sm, ws, hw, hL⟩ := hP
      exact ⟨_, L, ws, rfl, rfl, .inl (.of hL), hw.sum (by omega), q _ _ (s1.trans sm)⟩
/-! format_state: slots 0:state -/
abbrev s_format_state : Stmt := topS 43
theorem sc_format_state : FnScope ["state"] ["state"] (defScope s_format_state) := ⟨rfl, rfl, rfl, by decide +kernel, rfl, by decide +kernel, by decide +kernel⟩
def sp_format_state (C : Addr) : Sp := fun vs H Q E => ∃ (v : V) (d : Dat), vs = [v] ∧ Rp H v d ∧ d.fit2 ∧ (d.state = true → (∀ r, d.stt = some r → r.2 ≤ 1000000000000000000000000000000000000000) ∧ ∀ H' z, Same H H' → Q (.str z) H') ∧ (d.state = false → ∀ H', Same H H' → E (.ref C) none H')
theorem ok_format_state {C : Addr} (D : Df K mg "format_state" s_format_state) (G_checked_state : HasX P w K mg base 3 "checked_state" ["state"] (sp_checked_state C)) (G_run_word : Has P w K mg base 1 "run_word" ["run"] sp_run_word) : HasX P w K mg base 4 "format_state" ["state"] (sp_format_state C) := by
  refine hasX_of D sc_format_state (fun _ _ _ _ _ _ us hl => match us, hl with | [_], _ => rfl) (fun vs H Q E h => ?_) (fun f cdv A outer s H vs Q E hr h => ?_)
  · obtain ⟨_, _, rfl, _⟩ := h
    rfl
  · obtain ⟨v, d, rfl, hv, fit, q, qe⟩ := h
    refine ⟨_, (pss_cons (ps_set (i := 0) sc_format_state.nd rfl (by first | exact Or.inl rfl | exact Or.inr rfl) (pe_callXH G_checked_state (L2N.takes_of rfl rfl rfl rfl) (hr.mono (by omega)) (by rfl) (pa_cons (pv 0) pa_nil)))
    (pss_one (ps_ret (pe_ifExp (pt_cmpR op_isN (pv 0) pe_non (nomark _)) pe_str (pe_callH G_run_word (hr.mono (by omega)) (by rfl) (pa_cons (pv 0) pa_nil)))))), ?_⟩
    refine ⟨_, rfl, v, d, rfl, hv, fit, fun cs H1 v1 s1 hv1 => ?_, fun cs H1 s1 => qe cs _ s1⟩
    obtain ⟨bd, q⟩ := q cs
    obtain ⟨_, ok⟩ := state_rp hv cs
    cases hst : d.stt with
    | none =>
      rw [hst] at hv1
      cases hv1
      exact ⟨_, rfl, rfl, _, rfl, iteP rfl (q _ _ s1)⟩
    | some r =>
      rw [hst] at hv1
      have hv2 := hv1
      obtain ⟨t, rfl, ht⟩ := hv1
      exact ⟨_, rfl, rfl, _, rfl, iteN rfl ⟨_, rfl, _, r, rfl, RunV.dress hv2, (ok r hst).1.2.1, (ok r hst).2, bd r hst, fun z _ => q _ _ s1⟩⟩
end
end UP

set_option Elab.async false
set_option linter.all false
set_option maxRecDepth 100000
set_option maxHeartbeats 4000000
set_option pp.maxSteps 600
namespace UP
open PySem PySem.Spec PyProof.Rows L2
/-- the written dict MARKS -/
structure MrkT (K : PySem.W.Frag) (w : World) (mg : Str → Option Value) (aM : Addr) : Prop where
  a_MARKS : mg "MARKS" = some (.ref aM)
  m1 : KDct K w aM "waits" (.str "+")
  m2 : KDct K w aM "leaves" (.str "-")
section
variable {X : Cx} {K : PySem.W.Frag} {w : World}
theorem ix_kdictK (h : X.K = K) (h2 : X.w = w) : IxR X (rIxD K w) := by
  subst h
  subst h2
  exact ix_kdict
end
theorem entry_two {d : Dat} (h : d.entry = true) : ∃ x z, d.two = some (x, .str z) ∧ (x = .non ∨ ∃ k, x = .str k ∧ KindOk k) ∧ (z = "waits" ∨ z = "leaves") := by
  unfold Dat.entry at h
  cases ht : d.two with
  | none => rw [ht] at h; cases h
  | some p =>
    obtain ⟨x, y⟩ := p
    rw [ht] at h
    have h := Bool.and_eq_true_iff.mp (show ((x.none0 || x.kind) && y.act) = true from h)
    cases y with
    | str z =>
      refine ⟨x, z, rfl, ?_, ?_⟩
      · cases x with
        | non => exact .inl rfl
        | str k => exact .inr ⟨k, rfl, kind_ok h.1⟩
        | _ => exact absurd h.1 (by intro z; cases z)
      · have h2 : (decide (z = "waits") || decide (z = "leaves")) = true := h.2
        rcases Bool.or_eq_true_iff.mp h2 with a | a
        · exact .inl (of_decide_eq_true a)
        · exact .inr (of_decide_eq_true a)
    | _ => exact absurd h.2 (by intro z; cases z)
section
variable {P : Program} {w : World} {K : PySem.W.Frag} {mg : Str → Option Value} {base : Heap} {aM : Addr}
/-! format_record: slots 0:record 1:kind 2:action -/
abbrev s_format_record : Stmt := topS 44
theorem sc_format_record : FnScope ["record", "kind", "action"] ["record"] (defScope s_format_record) := ⟨rfl, rfl, rfl, by decide +kernel, rfl, by decide +kernel, by decide +kernel⟩
def sp_format_record (C : Addr) : Sp := fun vs H Q E => ∃ (v : V) (d : Dat), vs = [v] ∧ Rp H v d ∧ d.fits ∧ (d.recd = true → ∀ H' z, Same H H' → Q (.str z) H') ∧ (d.recd = false → ∀ H', Same H H' → E (.ref C) none H')
theorem ok_format_record {C : Addr} (D : Df K mg "format_record" s_format_record) (TD : MrkT K w mg aM) (X1 : Ex K mg "InvalidRecord" C) (G_is_record : Has P w K mg base 3 "is_record" ["value"] sp_is_record) : HasX P w K mg base 4 "format_record" ["record"] (sp_format_record C) := by
  refine hasX_of D sc_format_record (fun _ _ _ _ _ _ us hl => match us, hl with | [_], _ => rfl) (fun vs H Q E h => ?_) (fun f cdv A outer s H vs Q E hr h => ?_)
  · obtain ⟨_, _, rfl, _⟩ := h
    rfl
  · obtain ⟨v, d, rfl, hv, fit, q, qe⟩ := h
    refine ⟨_, (pss_cons (ps_if (pt_not (pt_val (pe_callH G_is_record (hr.mono (by omega)) (by rfl) (pa_cons (pv 0) pa_nil)))) (pss_one (L2N.ps_raise rfl (L2N.takes_of rfl rfl rfl rfl) (L2N.pmk_own PySem.F.excBase_ValueError X1.x X1.g X1.k (raises_own X1.b X1.t) (by exact rfl)))) pss_nil)
    (pss_one (ps_ret (pe_join pe_str (pe_lc (own := [("kind", 1), ("action", 2)]) rfl sc_format_record.nd (pi_seqV 0) (blkOk_by (N := ["record", "kind", "action"]) (sc := defScope s_format_record) (by decide +kernel)) (fun _ _ _ _ _ => (pg_any (n := 2) rfl (pgs_cons (pg_name (i := 1) sc_format_record.nd rfl (by first | exact Or.inl rfl | exact Or.inr rfl)) (pgs_cons (pg_name (i := 2) sc_format_record.nd rfl (by first | exact Or.inl rfl | exact Or.inr rfl)) pgs_nil)))) (fun _ _ _ _ _ => pts_nil) (fun _ _ _ _ _ => (pe_op op_add_str (pe_ifExp (pt_cmpR op_isN (pv 1) pe_non (nomark _)) pe_str (pv 1)) (pe_ix (ix_kdictK (K := K) (w := w) rfl rfl) (pe_glob (v := .ref aM) (by rfl) TD.a_MARKS rfl) (pv 2) (fun _ _ => rfl))))))))), ?_⟩
    refine ⟨_, rfl, v, d, rfl, hv, fit, fun H1 s1 => ⟨_, rfl, ?_⟩⟩
    by_cases cs : d.recd = true
    · refine iteN (by rw [cs]; rfl) ?_
      have q := q cs
      obtain ⟨l, hd⟩ : ∃ l, d.parts = some l := by
        cases hp : d.parts with
        | some l => exact ⟨l, rfl⟩
        | none =>
          unfold Dat.recd at cs
          rw [hp] at cs
          cases cs
      have cs : (decide ((l.length : Int) ≤ 400) && l.all Dat.entry) = true := by
        unfold Dat.recd at cs
        rw [hd] at cs
        exact cs
      have cs := Bool.and_eq_true_iff.mp cs
      have l4 := of_decide_eq_true cs.1
      obtain ⟨a, xs, rfl, hx, hp⟩ := hv.seq hd
      have lx : xs.length = l.length := Paired.len hp
      refine ⟨⟨_, rfl⟩, ?_⟩
      refine ⟨a, xs, rfl, hx.same s1, fun J wk L nL => lc_wk wk (fun i H' => Same H1 H' ∧ ∃ ws, Wds ws i ∧ H' L = some (.lst (ws.map V.str))) (fun _ _ p => p.1) ⟨same_upd nL, [], .nil, upd_same⟩ (fun i x H2 ex p => ?_) (fun H2 p => ?_)⟩
      · obtain ⟨sm, ws, hw, hL⟩ := p
        obtain ⟨r, er, hr1⟩ := Paired.at hp ex
        have hi : i < xs.length := (List.getElem?_eq_some_iff.mp ex).1
        obtain ⟨x0, z, ht, hx0, hz⟩ := entry_two (List.all_eq_true.mp cs.2 r (List.mem_of_getElem? er))
        obtain ⟨t, vx, vy, rfl, hs, h1, h2⟩ := (hr1.same (s1.trans sm)).two ht
        cases h2
        have fin : ∀ z : Str, z.length ≤ 60 → (ws.map V.str).length < sizeLine ∧ Same H1 (upd H2 L (.lst (ws.map V.str ++ [.str z]))) ∧ ∃ ws', Wds ws' (i + 1) ∧ (upd H2 L (.lst (ws.map V.str ++ [.str z]))) L = some (.lst (ws'.map V.str)) := fun z lz => by
          refine ⟨?_, same_grow nL sm, ws ++ [z], hw.snoc lz, ?_⟩
          · have := hw.1
            rw [List.length_map]
            exact small (by omega)
          · rw [upd_same, List.map_append]
            rfl
        obtain ⟨sg, km, ls⟩ : ∃ sg : Str, KDct K w aM z (.str sg) ∧ sg.length = 1 := by
          rcases hz with e | e
          · rw [e]
            exact ⟨"+", TD.m1, by decide +kernel⟩
          · rw [e]
            exact ⟨"-", TD.m2, by decide +kernel⟩
        refine ⟨t, _, rfl, hs, rfl, _, _, rfl, _, _, rfl, rfl, rfl, yesT ?_⟩
        have lq : ("?" : Str).length = 1 := by decide +kernel
        rcases hx0 with rfl | ⟨k, rfl, kk⟩
        · cases h1
          exact ⟨_, rfl, rfl, _, rfl, iteP rfl ⟨_, rfl, aM, _, _, rfl, rfl, km, _, _, rfl, rfl, smallE (by omega), _, hL, fin _ (by rw [str_app_len]; omega)⟩⟩
        · cases h1
          have lk := kk.2.1
          exact ⟨_, rfl, rfl, _, rfl, iteN rfl ⟨_, rfl, _, rfl, aM, _, _, rfl, rfl, km, _, _, rfl, rfl, smallE (by omega), _, hL, fin _ (by rw [str_app_len]; omega)⟩⟩
      · obtain ⟨sm, ws, hw, hL⟩ := p
        rw [lx] at hw
        exact ⟨_, L, ws, rfl, rfl, .inl (.of hL), hw.sum (by omega), q _ _ (s1.trans sm)⟩
    · have cs : d.recd = false := by simpa using cs
      exact iteP (by rw [cs]; rfl) (qe cs _ s1)
end
end UP

set_option Elab.async false
set_option linter.all false
set_option maxRecDepth 100000
set_option maxHeartbeats 4000000
/-! walks over lists and tuples while an exception is handled: the StopIteration at their end takes the handled one as its context -/
namespace UPH
open PySem PySem.Spec PyProof.Rows L2 HotX L2H
section
variable {prog : Program} {w : World} {A : Around} {E : Value → Shared → Prop} {s : Shared}
/-- a new StopIteration, raised and caught by pyNext -/
theorem stop_hot {α : Type} {B : Around} {x1 : Addr} {Q : Option Value → Shared → Prop} (hot : HotAt A x1 s.heap) (hQ : ∀ h', (∀ b o, s.heap.get? b = some o → h'.get? b = some o) → Q none { s with heap := h' }) :
    wpAny (model prog w) A (Builtin.SmallTypes.stopIteration : Sem α) (fun _ _ => False) (fun e s1 => wpAny (model prog w) B (isInstance e (.type "StopIteration")) (fun b s2 => b = true ∧ Q none s2) E s1) s := by
  obtain ⟨hh, o1, vs1, h1, d1, c1⟩ := hot
  show wpAny _ _ (newExc (.type "StopIteration") [] >>= _) _ _ _
  refine wpAny_bind ?_
  simp only [newExc, newTuple]
  refine wpAny_bind (wpAny_newObj_type ?_ (by size_fits))
  refine wpAny_bind (m := firstArgMember _ _) (wpAny_of_eq (a := Value.none) (by first | rfl | (simp only [firstArgMember]; rfl)) ?_)
  refine wpAny_newObj_type ?_ (by size_fits)
  refine raiseNew_hot ⟨hh, o1, vs1, Heap.get?_push_of_some _ (Heap.get?_push_of_some _ h1), d1, c1⟩ (Nat.ne_of_lt (Heap.lt_size (Heap.get?_push_of_some _ h1))) (Heap.get?_push_size _ rfl) rfl (by first | (simp; done) | (simp; omega) | (simp only [Array.size_append]; simp; omega)) ?_
  refine wpAny_isInstance (T := "StopIteration") (b := true) ⟨_, Heap.get?_update_self _ (Heap.get?_push_size _ rfl) rfl, rfl⟩ isSubtype_stop ⟨rfl, hQ _ fun b o e => ?_⟩
  rw [Heap.get?_update_other _ _ (Nat.ne_of_gt (Heap.lt_size (Heap.get?_push_of_some _ e)))]
  exact Heap.get?_push_of_some _ (Heap.get?_push_of_some _ e)
/-- the end of a list's iterator -/
theorem next_list_end_hot {it l x1 : Addr} {i : Nat} {items : Array Value} {Q : Option Value → Shared → Prop} (hot : HotAt A x1 s.heap) (hne : x1 ≠ it)
    (hit : s.heap.IsListIter it l i) (hl : s.heap.IsList l items) (hx : items[i]? = none)
    (hQ : ∀ h', Heap.ExtBut it s.heap h' → Q none { s with heap := h' }) : wpAny (model prog w) A (pyNext (.ref it)) Q E s := by
  obtain ⟨hh, o1, vs1, h1, d1, c1⟩ := hot
  obtain ⟨o, ho, hc, hd⟩ := id hit
  obtain ⟨ol, hol, _, nl, hdl⟩ := hl
  unfold pyNext
  refine wpAny_bind (wpAny_attempt (wpAny_callSpecial?_slot (name := Str.ofString "__next__") hit.typeIs slot_listiter_next
    (wpAny_call_entry slot_listiter_next hit.typeIs entry_listiter_next ?_ (args_listiter_next _))))
  show wpAny _ _ (field (.ref it) 0 >>= _) _ _ s
  refine wpAny_bind (wpAny_field ho hd (x := .ref l) rfl ?_)
  show wpAny _ _ (if (Value.ref l == Value.none) = true then _ else _) _ _ s
  rw [if_neg (show ¬ ((Value.ref l == Value.none) = true) from Bool.false_ne_true)]
  show wpAny _ _ (field (.ref it) 1 >>= _) _ _ s
  refine wpAny_bind (wpAny_field ho hd (x := .int i 0) rfl ?_)
  show wpAny _ _ (seqItems? (.ref l) >>= _) _ _ s
  refine wpAny_bind (wpAny_seqItems hol hdl ?_)
  simp only [Int.toNat_natCast, hx]
  refine wpAny_bind (wpAny_rule (wpAny_bind (wpAny_setField ho hd (by simp) ?_)))
  have h2 : (s.heap.update it (Obj.mapFields (·.setIfInBounds 0 .none))).get? x1 = some o1 := by
    rw [Heap.get?_update_other _ _ hne.symm]
    exact h1
  refine wpAny_mono (stop_hot (A := A.in1) (B := A) (E := E) (Q := Q) ⟨hh, o1, vs1, h2, d1, c1⟩ fun h' eb => hQ h' fun b o hb e => eb b o ?_) (fun _ _ z => False.elim z) (fun e s1 z => ?_)
  · rw [Heap.get?_update_other _ _ (Ne.symm hb)]
    exact e
  · refine wpAny_bind (wpAny_mono z (fun b s2 ⟨e1, q⟩ => ?_) fun _ _ y => y)
    subst e1
    exact wpAny_pure q
/-- the end of a tuple's iterator -/
theorem next_tuple_end_hot {it t x1 : Addr} {i : Nat} {items : Array Value} {Q : Option Value → Shared → Prop} (hot : HotAt A x1 s.heap) (hne : x1 ≠ it)
    (hit : IsTupIter s.heap it t i) (ht : IsTup s.heap t items) (hx : items[i]? = none)
    (hQ : ∀ h', Heap.ExtBut it s.heap h' → Q none { s with heap := h' }) : wpAny (model prog w) A (pyNext (.ref it)) Q E s := by
  obtain ⟨hh, o1, vs1, h1, d1, c1⟩ := hot
  obtain ⟨o, ho, hc, hd⟩ := id hit
  obtain ⟨ol, hol, _, nl, hdl⟩ := ht
  unfold pyNext
  refine wpAny_bind (wpAny_attempt (wpAny_callSpecial?_slot (name := Str.ofString "__next__") hit.typeIs slot_tupleiter_next
    (wpAny_call_entry slot_tupleiter_next hit.typeIs entry_tupleiter_next ?_ (args_tupleiter_next _))))
  show wpAny _ _ (field (.ref it) 0 >>= _) _ _ s
  refine wpAny_bind (wpAny_field ho hd (x := .ref t) rfl ?_)
  show wpAny _ _ (if (Value.ref t == Value.none) = true then _ else _) _ _ s
  rw [if_neg (show ¬ ((Value.ref t == Value.none) = true) from Bool.false_ne_true)]
  show wpAny _ _ (field (.ref it) 1 >>= _) _ _ s
  refine wpAny_bind (wpAny_field ho hd (x := .int i 0) rfl ?_)
  show wpAny _ _ (seqItems? (.ref t) >>= _) _ _ s
  refine wpAny_bind (wpAny_seqItems hol hdl ?_)
  simp only [Int.toNat_natCast, hx]
  refine wpAny_bind (wpAny_rule (wpAny_bind (wpAny_setField ho hd (by simp) ?_)))
  have h2 : (s.heap.update it (Obj.mapFields (·.setIfInBounds 0 .none))).get? x1 = some o1 := by
    rw [Heap.get?_update_other _ _ hne.symm]
    exact h1
  refine wpAny_mono (stop_hot (A := A.in1) (B := A) (E := E) (Q := Q) ⟨hh, o1, vs1, h2, d1, c1⟩ fun h' eb => hQ h' fun b o hb e => eb b o ?_) (fun _ _ z => False.elim z) (fun e s1 z => ?_)
  · rw [Heap.get?_update_other _ _ (Ne.symm hb)]
    exact e
  · refine wpAny_bind (wpAny_mono z (fun b s2 ⟨e1, q⟩ => ?_) fun _ _ y => y)
    subst e1
    exact wpAny_pure q
theorem unpackItems_hot {t x1 : Addr} {items : Array Value} {Q : List Value → Shared → Prop} (hot : HotAt A x1 s.heap) (ht : IsTup s.heap t items)
    (hQ : ∀ h', Heap.ExtBut s.heap.objs.size s.heap h' → Q items.toList { s with heap := h' }) : wpAny (model prog w) A (unpackItems (.ref t) items.size none) Q E s := by
  have hlt : t ≠ s.heap.objs.size := by obtain ⟨o, ho, _⟩ := ht; exact Nat.ne_of_lt (Heap.lt_size ho)
  obtain ⟨hh, o1, vs1, h1, d1, c1⟩ := hot
  have hx1 : x1 ≠ s.heap.objs.size := Nat.ne_of_lt (Heap.lt_size h1)
  unfold unpackItems
  refine wpAny_bind ?_
  · unfold notIterableAtAll
    refine wpAny_bind (wpAny_specialOf ht.typeIs slot_tuple_iter.lookup ?_)
    refine wpAny_pure ?_
    simp only [Bool.false_eq_true, if_false]
    refine wpAny_bind (wpAny_holding (iter_tuple ht ?_))
    refine wpAny_bind (wpAny_holding (draw_tuple hlt items.size 0 _ _ ⟨_, Heap.get?_push_size _ rfl, rfl, rfl⟩ (ht.push _) (by omega) fun h₁ hit₁ hs₁ => ?_))
    have hall : List.take items.size (List.drop 0 items.toList) = items.toList := by
      rw [List.drop_zero]; exact List.take_of_length_le (by simp)
    rw [hall]
    rw [if_neg (by simp)]
    have ht₁ : IsTup h₁ t items := (ht.push _).extBut hs₁.extBut hlt
    have h1' : h₁.get? x1 = some o1 := (hs₁.extBut) x1 o1 hx1 (Heap.get?_push_of_some _ h1)
    refine wpAny_bind (wpAny_holding (next_tuple_end_hot ⟨hh, o1, vs1, h1', d1, c1⟩ hx1 hit₁ ht₁ (by simp) fun h₂ he₂ => ?_))
    simp only [Option.isSome_none, Bool.false_eq_true, if_false]
    exact wpAny_pure (hQ h₂ fun b o hb e => he₂ b o hb (hs₁.extBut b o hb (Heap.get?_push_of_some _ e)))
theorem assign_Tuple_hot {env : Env} {elts : List Expr} {k : Nat} {pos : Pos} {t x1 : Addr} {items : Array Value} {Q : Unit → Shared → Prop} (hot : HotAt A x1 s.heap) (ht : IsTup s.heap t items)
    (hn : (assignEach elts env).length = items.size) (hstar : (assignEach elts env).findIdx? (·.1) = none)
    (h : ∀ h', Heap.ExtBut s.heap.objs.size s.heap h' → wpAny (model prog w) A (assignInOrder ((assignEach elts env).map (·.2)) items.toList) Q E { s with heap := h' }) :
    wpAny (model prog w) A (assign (.Tuple elts k pos) env (.ref t)) Q E s := by
  rw [assign_Tuple]
  refine wpAny_bind (wpAny_standAt ?_)
  unfold unpack
  rw [hn, hstar]
  exact wpAny_bind (wpAny_holding (unpackItems_hot hot ht h))
end
/-! ### targets and blocks in a context that bears a handled exception -/
section
variable {X : Cx}
theorem pg_tupH {es : List Expr} {k : Nat} {t : TGs} {n : Nat} {pos : Pos} (hc : HotC X) (h : PGs X es t)
    (hn : (assignEach es X.env).length = n := by rfl) (hst : (assignEach es X.env).findIdx? (·.1) = none := by rfl) : PG X (.Tuple es k pos) (gTup X.K n t) := by
  refine ⟨fun pins s σ H v u Q I r hw => ?_⟩
  obtain ⟨a, xs, e1, hq, hl, hw⟩ := hw
  subst e1
  cases r
  obtain ⟨its, rv, ht, hz⟩ := I.tuple hq
  obtain ⟨x1, hot⟩ := hc.at I
  refine assign_Tuple_hot hot ht (by simp [hn, ← hl, rv.length]) hst fun h' hx => ?_
  exact h.run pins _ σ H xs _ Q (I.kept (t' := s.toks) fun b o e => hx b o (Nat.ne_of_lt (Heap.lt_size e)) e) (by simpa using rv) hw
/-- a block's context, with what the def's context holds pinned -/
abbrev blkH (X : Cx) (s : Shared) (H : Hp) (scope : Scope) (cenv : Env) (fp : List Addr) (p : Addr × Obj) : Cx := { X.blk s H scope cenv fp with pn := [p] }
theorem to_blkH {s : Shared} {H : Hp} {scope : Scope} {cenv : Env} {fp : List Addr} {p : Addr × Obj} {σ : L2.St} {H' : Hp} {s' : Shared} (I : Inv (X.blk s H scope cenv fp) [] σ H' s') (hp : s'.heap.get? p.1 = some p.2 ∧ H' p.1 = none ∧ p.1 ≠ cenv.locals ∧ p.1 ∉ frs X.stack ∧ ∀ v, p.2.data ≠ .cell v) : Inv (blkH X s H scope cenv fp p) [] σ H' s' :=
  ⟨⟨I.ok.mod, I.ok.kind, I.ok.glob, I.ok.blt, I.ok.above, I.ok.inj, I.ok.has, I.ok.cab, I.ok.hd, I.ok.frames, I.ok.stk, I.ok.exf, I.ok.bs, I.ok.bsz, I.ok.noex, I.ok.exfs, I.ok.funs, I.ok.frf⟩, I.os, I.bare, I.base, I.loc, I.cell, I.free, I.freeC, fun q hq => by
    have : q = p := by simpa using hq
    rw [this]
    exact hp, I.hok, I.len⟩
/-- the core of a list comprehension over a list, an exception being handled -/
theorem lc_hot {pins : List (Addr × Obj)} {s : Shared} {σ : L2.St} {H : Hp} {Q : VK} {elt tg iter : Expr} {ifs : List Expr} {scope : Scope} {own : List (Str × Nat)} {pos pos' : Pos} {tl : TE} {g : TG} {tt : TT} {te : TE} {use : Option (Value → Sem Unit)} {Qf : Value → Shared → Prop}
    (hc : HotC X) (hN : X.N.Nodup) (I : Inv X pins σ H s) (hl : PE X iter tl) (ok : BlkOk X.N X.env.scope scope own)
    (hg : ∀ (s : Shared) (H : Hp) (C : Addr) (cl : List (Str × Addr)) (fp : List Addr) (p : Addr × Obj), Hot1 X.A p → PG (blkH X s H scope (compEnvC scope cl C X.env) fp p) tg g)
    (ht : ∀ (s : Shared) (H : Hp) (C : Addr) (cl : List (Str × Addr)) (fp : List Addr) (p : Addr × Obj), Hot1 X.A p → PTs (blkH X s H scope (compEnvC scope cl C X.env) fp p) ifs tt)
    (he : ∀ (s : Shared) (H : Hp) (C : Addr) (cl : List (Str × Addr)) (fp : List Addr) (p : Addr × Obj), Hot1 X.A p → PE (blkH X s H scope (compEnvC scope cl C X.env) fp p) elt te)
    (hs : ∀ x, foldedSetIterable iter X.env x = pure x)
    (h : tLc (iList X.K tl) g tt te (own.map (·.2)) σ H Q)
    (hRR : ∀ D C s' m H', Inv X pins σ H' s' → Q (.ref D) H' → s'.heap.Ns C m → FpOk X pins H' C → compPost (model X.prog X.w) X.A X.xe use Qf (.ref D) C (.ok .next) s') :
    wpAny (model X.prog X.w) X.A (comprehension (.ListComp elt [⟨tg, iter, ifs, 0⟩] scope pos) scope X.env pos' (newList []) false (eval iter X.env) use) Qf X.xe s := by
  obtain ⟨p, hp1, hpn⟩ := hc
  have hfree : ∀ y ∈ scope.names, y.2 = .free → ∃ c, X.env.cells.lookup y.1 = some c := fun y hy e => (ok.free y hy e).elim (fun k => I.ok.has _ (.inl k)) fun k => I.ok.has _ (.inr k)
  refine wpAny_comprehension_free (use := use) rfl hs (closure_ok hfree) ok.kind (fun y hy e => by rw [ok.uniq y hy, e]) (thn (hl.run pins s σ H _ I h) fun xv s1 hx => ?_)
  obtain ⟨x, H1, I1, r1, a, e, ⟨xs, hq⟩, q⟩ := hx
  subst e
  cases r1
  obtain ⟨its, rv, pl, hz⟩ := I1.list hq
  refine wpAny_pyIter_list pl.isList ?_
  generalize hit : s1.heap.objs.size = it
  generalize hs2 : ({ s1 with heap := s1.heap.push _ } : Shared) = s2
  have kp2 : ∀ b o, s1.heap.get? b = some o → s2.heap.get? b = some o := fun b o e => by rw [← hs2]; exact Heap.get?_push_of_some _ e
  have I2 : Inv X pins σ H1 s2 := by rw [← hs2]; exact I1.kept (t' := s1.toks) fun b o e => Heap.get?_push_of_some _ e
  have st2 : s2.heap.IsListIter it a 0 := by
    rw [← hs2, ← hit]
    exact ⟨_, Heap.get?_push_size _ rfl, rfl, rfl⟩
  have f2 : FpOk X pins H1 it := I1.fpOk (Nat.le_of_eq hit) (I1.hok.fresh (Nat.le_of_eq hit))
  refine wpAny_newObj_type (newEnv_comp ?_) (by show 0 ≤ sizeLine; decide)
  generalize hD : s2.heap.objs.size = D
  have hDn : H1 D = none := I2.hok.fresh (Nat.le_of_eq hD)
  obtain ⟨W, ⟨m0, w0⟩, turn⟩ := q D hDn
  generalize hs3 : ({ s2 with heap := s2.heap.push { cls := .type "list", data := .seq ([] : List Value).toArray } } : Shared) = s3
  have kp3 : ∀ b o, s2.heap.get? b = some o → s3.heap.get? b = some o := fun b o e => by rw [← hs3]; exact Heap.get?_push_of_some _ e
  have I3 : Inv X pins σ (upd H1 D (.lst [])) s3 := by
    rw [← hs3]
    refine I2.laid (t' := s2.toks) (fun b o e => Heap.get?_push_of_some _ e) (Nat.le_of_eq hD) ⟨Nat.zero_le _, [], 0, .nil, ?_⟩
    rw [← hD]
    exact Heap.get?_push_size _ rfl
  have ltD : it < D := by
    obtain ⟨o, ho, _⟩ := st2
    rw [← hD]
    exact Heap.lt_size ho
  have st3 : s3.heap.IsListIter it a 0 := by
    obtain ⟨o, ho, z⟩ := st2
    exact ⟨o, kp3 _ _ ho, z⟩
  have lt3 : it < s3.heap.objs.size := by
    obtain ⟨o, ho, _⟩ := st3
    exact Heap.lt_size ho
  have n3 : (upd H1 D (.lst [])) it = none := by
    rw [upd_ne (Nat.ne_of_lt ltD)]
    exact f2.1
  have f3 : FpOk X pins (upd H1 D (.lst [])) it := ⟨n3, f2.2⟩
  have pin3 := I3.pin p (List.mem_append_left _ hpn)
  have pne : p.1 ≠ it := f2.2.2.2.2.2 p (List.mem_append_left _ hpn)
  have I4 := block_start I3 ok hN (fp := [it]) fun b hb => by
    have : b = it := by simpa using hb
    rw [this]
    exact ⟨f3, lt3⟩
  generalize hH3 : upd H1 D (.lst []) = H3 at *
  have pg := hg s3 H3 s3.heap.objs.size (cellsFrom (s3.heap.objs.size + 1) scope.names (cloFrom X.env.cells scope.names [])) [it] p hp1
  have pt := ht s3 H3 s3.heap.objs.size (cellsFrom (s3.heap.objs.size + 1) scope.names (cloFrom X.env.cells scope.names [])) [it] p hp1
  have pe := he s3 H3 s3.heap.objs.size (cellsFrom (s3.heap.objs.size + 1) scope.names (cloFrom X.env.cells scope.names [])) [it] p hp1
  show codeAny _ _ (.compStart (.ListComp elt [⟨tg, iter, ifs, 0⟩] scope pos) 0 (.ref it) (.ref D) (compEnvC scope (cellsFrom (s3.heap.objs.size + 1) scope.names (cloFrom X.env.cells scope.names [])) s3.heap.objs.size X.env)) (compPost (model X.prog X.w) X.A X.xe use Qf (.ref D) s3.heap.objs.size) { s3 with heap := pushCells (s3.heap.push { cls := .type "dict", data := .dict #[] }) scope.names }
  generalize hce : compEnvC scope (cellsFrom (s3.heap.objs.size + 1) scope.names (cloFrom X.env.cells scope.names [])) s3.heap.objs.size X.env = ce at I4 pg pt pe ⊢
  have cL : ce.locals = s3.heap.objs.size := by subst hce; rfl
  generalize hs4 : ({ s3 with heap := pushCells (s3.heap.push { cls := .type "dict", data := .dict #[] }) scope.names } : Shared) = s4 at I4 ⊢
  have kp4 : ∀ b o, s3.heap.get? b = some o → s4.heap.get? b = some o := fun b o e => by rw [← hs4]; exact pushCells_keeps _ _ _ _ (Heap.get?_push_of_some _ e)
  have st4 : s4.heap.IsListIter it a 0 := by
    obtain ⟨o, ho, z⟩ := st3
    exact ⟨o, kp4 _ _ ho, z⟩
  have B4 : Inv (blkH X s3 H3 scope ce [it] p) [] (wipe σ (own.map (·.2))) H3 s4 := to_blkH I4 ⟨kp4 _ _ pin3.1, pin3.2.1, by
    rw [cL]
    exact Nat.ne_of_lt (Heap.lt_size pin3.1), fun z => (List.mem_cons.mp (I3.stkSub _ z)).elim pin3.2.2.1 pin3.2.2.2.1, pin3.2.2.2.2⟩
  have stat : ∀ {σ' : L2.St} {H' : Hp} {s' : Shared}, Inv (blkH X s3 H3 scope ce [it] p) [] σ' H' s' → H' it = none → FpOk (blkH X s3 H3 scope ce [it] p) [] H' it := fun {σ' H' s'} I' hn =>
    have mem : it ∈ (blkH X s3 H3 scope ce [it] p).ex := List.mem_singleton.mpr rfl
    ⟨hn, (I'.ok.exf it mem).1, I'.ok.exfs it mem, .inl mem, fun x c e => (I'.ok.exf it mem).2 x c e, fun q hq => by
      have : q = p := by simpa using hq
      rw [this]
      exact pne⟩
  have self : ∀ (A : Around) (s : Shared) (Q : Value → Shared → Prop) (E : Value → Shared → Prop), s.heap.IsListIter it a 0 → Q (.ref it) s → wpAny (model X.prog X.w) A (pyIter (.ref it)) Q E s := fun _ _ _ _ st h => wpAny_pyIter_listiter st h
  have loop : codeAny (model X.prog X.w) X.A (.compLoop (.ListComp elt [⟨tg, iter, ifs, 0⟩] scope pos) 0 (.ref it) (.ref D) ce) (compPost (model X.prog X.w) X.A X.xe use Qf (.ref D) s3.heap.objs.size) s4 := by
    refine compLoop_any (fun n s' => ∃ i H', Inv (blkH X s3 H3 scope ce [it] p) [] (wipe σ (own.map (·.2))) H' s' ∧ s'.heap.IsListIter it a i ∧ H' it = none ∧ W i n H') ?_ m0 ⟨0, H3, B4, st4, n3, w0⟩
    rintro n s5 ⟨i, H5, I5, st5, n5, w5⟩
    obtain ⟨f0, f1, f2', f4, f5, f6⟩ := stat I5 n5
    rcases turn i n H5 w5 with ⟨stop, qq⟩ | ⟨go, Nx, hNx, step⟩
    · obtain ⟨ys, hys, hlen⟩ := stop
      obtain ⟨its5, rv5, pl5, hz5⟩ := I5.list hys
      have pin5 := I5.pin p (List.mem_singleton.mpr rfl)
      obtain ⟨hh, vs1, d1, c1⟩ := hp1
      have hl5 := rv5.length
      refine next_list_end_hot ⟨hh, p.2, vs1, pin5.1, d1, c1⟩ pne st5 pl5.isList (by simp; omega) fun h' eb => ?_
      have I6 : Inv (blkH X s3 H3 scope ce [it] p) [] (wipe σ (own.map (·.2))) H5 { s5 with heap := h' } := I5.turned (t' := s5.toks) (fun b o hb e => eb b o hb e) f0 f1 f4 f5 f6
      have I7 : Inv X pins σ H5 { s5 with heap := h' } := I3.call' (ch := [it]) I6.os I6.base I6.hok I6.bare fun b hb => by
        have : b = it := by simpa using hb
        rw [this]
        exact ⟨f3.2.2.2.1, f3.2.1, f3.2.2.2.2.1, f3.2.2.2.2.2⟩
      have nC : H5 s3.heap.objs.size = none := by
        have z : H5 ce.locals = none := I6.free
        rw [cL] at z
        exact z
      obtain ⟨m, hn, _⟩ := I6.loc
      have hn : Heap.Ns _ ce.locals m := hn
      rw [cL] at hn
      exact hRR D s3.heap.objs.size _ m H5 I7 qq hn (I3.fpOk (Nat.le_refl _) nC)
    · obtain ⟨ys, y, hys, hy⟩ := go
      obtain ⟨its5, rv5, pl5, hz5⟩ := I5.list hys
      obtain ⟨u, hu, ru⟩ := rv5.get hy
      refine wpAny_pyNext_list_item st5 pl5.isList (x := u) (by simpa using hu) fun h' st6 sb => ?_
      have I6 : Inv (blkH X s3 H3 scope ce [it] p) [] (wipe σ (own.map (·.2))) H5 { s5 with heap := h' } := I5.turned (t' := s5.toks) (fun b o hb e => (sb.2 b hb).trans e) f0 f1 f4 f5 f6
      obtain ⟨o, e, c, d⟩ := id st6
      refine thnF (go_of (s := { s5 with heap := h' }) e c d (by decide) (Q := fun _ s7 => Inv (blkH X s3 H3 scope ce [it] p) [] (wipe σ (own.map (·.2))) H5 s7 ∧ s7.heap.IsListIter it a (i + 1)) ⟨I6, st6⟩) fun _ s7 ⟨I7, st7⟩ => ?_
      have B7 := I7.pinned (fp := [it]) (fun b hb => by
        have : b = it := by simpa using hb
        rw [this]
        exact stat I7 n5) (fun b hb => by
        have : b = it := by simpa using hb
        rw [this]
        obtain ⟨o, e, c, d⟩ := st7
        exact ⟨o, e, fun v z => by rw [d] at z; cases z⟩)
      refine thnF (pg.run _ s7 _ H5 y u _ B7 ru (step y H5 ⟨rfl, fun zs hz => by rw [I5.list_inj hz hys]; exact hy⟩)) fun _ s8 ⟨σ8, H8, I8, hw8, q8⟩ => ?_
      refine thnF (pt.run _ s8 σ8 H8 _ I8 q8) fun b s9 ⟨H9, I9, q9⟩ => ?_
      have fin : ∀ {s' : Shared} {H' : Hp}, Inv (blkH X s3 H3 scope ce [it] p) ([] ++ pinsAt [it] s7.heap) σ8 H' s' → Nx H' → ∃ m, m < n ∧ ∃ i H', Inv (blkH X s3 H3 scope ce [it] p) [] (wipe σ (own.map (·.2))) H' s' ∧ s'.heap.IsListIter it a i ∧ H' it = none ∧ W i m H' := fun {s' H'} I' nx => by
        obtain ⟨m', hm, w'⟩ := hNx H' nx
        have pin' : ∀ o, s7.heap.get? it = some o → s'.heap.get? it = some o ∧ H' it = none := fun o e =>
          let z := I'.pin (it, o) (List.mem_append_right _ (List.mem_append_right _ (mem_pinsAt (List.mem_singleton.mpr rfl) e)))
          ⟨z.1, z.2.1⟩
        obtain ⟨o, e, z⟩ := st7
        refine ⟨m', hm, i + 1, H', (I'.unpinned (pins := [])).weak (by rw [← hw8, wipe_length]) (fun j v e => ?_), ⟨o, (pin' o e).1, z⟩, (pin' o e).2, w'⟩
        rw [← hw8] at e
        exact (wipe_some e).1
      cases b with
      | false =>
        simp only [Bool.false_eq_true, if_false] at q9 ⊢
        exact fin I9 q9
      | true =>
        simp only [if_true] at q9 ⊢
        refine thnF (pe.run _ s9 σ8 H9 _ I9 q9) fun z s10 ⟨yv, H10, I10, r10, acc, hD10, hz10, nx⟩ => ?_
        exact app_ok (X := blkH X s3 H3 scope ce [it] p) I10 hD10 hz10 r10 fun s11 I11 => fin I11 nx
  exact codeAny_compStart_list loop (self X.A _ _ _ st4 loop)
/-- as a value -/
theorem pe_lcH {elt tg iter : Expr} {ifs : List Expr} {scope : Scope} {own : List (Str × Nat)} {pos : Pos} {tl : TE} {g : TG} {tt : TT} {te : TE} (hc : HotC X) (hN : X.N.Nodup) (hl : PE X iter tl) (ok : BlkOk X.N X.env.scope scope own)
    (hg : ∀ (s : Shared) (H : Hp) (C : Addr) (cl : List (Str × Addr)) (fp : List Addr) (p : Addr × Obj), Hot1 X.A p → PG (blkH X s H scope (compEnvC scope cl C X.env) fp p) tg g)
    (ht : ∀ (s : Shared) (H : Hp) (C : Addr) (cl : List (Str × Addr)) (fp : List Addr) (p : Addr × Obj), Hot1 X.A p → PTs (blkH X s H scope (compEnvC scope cl C X.env) fp p) ifs tt)
    (he : ∀ (s : Shared) (H : Hp) (C : Addr) (cl : List (Str × Addr)) (fp : List Addr) (p : Addr × Obj), Hot1 X.A p → PE (blkH X s H scope (compEnvC scope cl C X.env) fp p) elt te)
    (hs : ∀ x, foldedSetIterable iter X.env x = pure x := by intro _; rfl) :
    PE X (.ListComp elt [⟨tg, iter, ifs, 0⟩] scope pos) (tLc (iList X.K tl) g tt te (own.map (·.2))) := by
  refine ⟨fun pins s σ H Q I h => ?_⟩
  rw [eval_ListComp]
  refine lc_hot hc hN I hl ok hg ht he hs h fun D C s' m H' I' q hn f => ⟨m, hn, fun h'' sb => ?_⟩
  obtain ⟨f0, f1, f2, f3, f4, f5⟩ := f
  exact ⟨.ref D, H', I'.turned (t' := s'.toks) (fun b o hb e => (sb.2 b hb).trans e) f0 f1 f3 f4 f5, rfl, q⟩
/-- name = [..] on one line, the name a local -/
theorem ps_setLcH {i : Nat} {y : Str} {py : Pos} {elt tg iter : Expr} {ifs : List Expr} {scope : Scope} {own : List (Str × Nat)} {pos spos : Pos} {tl : TE} {g : TG} {tt : TT} {te : TE} (hc : HotC X) (hN : X.N.Nodup) (hy : X.N[i]? = some y) (hyl : X.env.scope.names.lookup y = some .local)
    (hsw : swapsWith (.ListComp elt [⟨tg, iter, ifs, 0⟩] scope pos) (some (.Name y py)) spos.line X.env = pure true) (hl : PE X iter tl) (ok : BlkOk X.N X.env.scope scope own)
    (hg : ∀ (s : Shared) (H : Hp) (C : Addr) (cl : List (Str × Addr)) (fp : List Addr) (p : Addr × Obj), Hot1 X.A p → PG (blkH X s H scope (compEnvC scope cl C X.env) fp p) tg g)
    (ht : ∀ (s : Shared) (H : Hp) (C : Addr) (cl : List (Str × Addr)) (fp : List Addr) (p : Addr × Obj), Hot1 X.A p → PTs (blkH X s H scope (compEnvC scope cl C X.env) fp p) ifs tt)
    (he : ∀ (s : Shared) (H : Hp) (C : Addr) (cl : List (Str × Addr)) (fp : List Addr) (p : Addr × Obj), Hot1 X.A p → PE (blkH X s H scope (compEnvC scope cl C X.env) fp p) elt te)
    (hs : ∀ x, foldedSetIterable iter X.env x = pure x := by intro _; rfl) :
    PS X (.Assign [.Name y py] (.ListComp elt [⟨tg, iter, ifs, 0⟩] scope pos) spos) (tAsg (tLc (iList X.K tl) g tt te (own.map (·.2))) (gName i)) := by
  refine ⟨fun pins s σ H D I h => ?_⟩
  rw [exec_Assign_Name_used _ _ _ _ hsw]
  refine wpAny_bind (wpAny_standAt (wpAny_bind ?_))
  have h : tLc (iList X.K tl) g tt te (own.map (·.2)) σ H (fun x H1 => gName i x σ H1 D.nx) := h
  show wpAny _ X.A (do let _ ← comprehension (.ListComp elt [⟨tg, iter, ifs, 0⟩] scope pos) scope X.env (firstIterPos [⟨tg, iter, ifs, 0⟩] pos) (newList []) false (eval iter X.env) (some (assign (.Name y py) X.env))) _ _ s
  refine wpAny_bind (thn (lc_hot (Qf := fun _ s' => SP X pins D .next s') hc hN I hl ok hg ht he hs h fun L C s' m H' I' q hn f => ?_) fun _ s' hq => wpAny_pure (wpAny_pure hq))
  show wpAny _ _ (assign (.Name y py) X.env (.ref L)) _ _ _
  refine wpAny_assign_Name (store_ok2 (v := V.ref L) I' hN hy (.inl hyl) rfl (fun s2 I2 ⟨a, sb, ha⟩ => ?_) (.inr hyl))
  obtain ⟨f0, f1, f2, f3, f4, f5⟩ := f
  have haC : C ≠ a := ha.elim (fun z => by rw [z]; exact f1) fun z => fun e => f4 y a z e.symm
  exact ⟨m, hn.sameBut sb haC, fun h3 sb3 => ⟨_, H', I2.turned (t' := s2.toks) (fun b o hb e => (sb3.2 b hb).trans e) f0 f1 f3 f4 f5, q⟩⟩
end
end UPH

set_option Elab.async false
set_option linter.all false
set_option maxRecDepth 100000
set_option maxHeartbeats 4000000
/-! a def of one argument, called in an except suite with the caught exception: it knows the exception's class -/
namespace UPH
open PySem PySem.Spec PyProof.Rows L2 HotX L2H
/-- the promise: by the class's address -/
abbrev SpE := Addr → Hp → VK → XK → Prop
structure FnE (P : Program) (w : World) (K : PySem.W.Frag) (mg : Str → Option Value) (base : Heap) (CX : CXT) (k : Nat) (f : Addr) (fd : FuncData) (x : Str) (sp : SpE) : Prop where
  run : ∀ (A : Around) (outer : List Env) (s : Shared) (H : Hp) (args : Args) (Q : VK) (E : XK) (p : Addr × Obj) (D : Addr), RoomH k A → Hot1 A p → PinOk outer H s p → Zc (.ref D) none p.2 → Env0 P w K mg base A outer s H → BindsTo s fd args [(x, .ref p.1)] → sp D H Q E →
    codeAny (model P w) A (.call (.ref f) args) (CR CX outer P w H s Q E) s
theorem fn_ofE {CX : CXT} {P : Program} {w : World} {K : PySem.W.Frag} {mg : Str → Option Value} {base : Heap} {k : Nat} {f : Addr} {name qual x : Str} {params : Arguments} {body : List Stmt} {scope : Scope} {dV kV doc pm cdv ct oc : Value} {an od : Option Addr}
    {osl : Array (Option Value)} {N : List Str} {sp : SpE} (lk : K.lookup f = some ⟨oc, od, .func (PySem.W.fnOf name qual params body scope dV kV doc pm an cdv ct), osl⟩) (hcd : PySem.W.codeIn K cdv qual = true) (S : FnScope N [x] scope)
    (hbody : ∀ (A : Around) (outer : List Env) (s : Shared) (H : Hp) (Q : VK) (E : XK) (p : Addr × Obj) (D : Addr), Hot1 A p → Zc (.ref D) none p.2 → RoomH k (A.deeper (envOfC qual scope s.heap.objs.size f cdv)) → sp D H Q E →
      ∃ t, PSs (cxH CX P w K mg base N qual scope f cdv A outer s H E p) body t ∧ t { nx := fun _ H' => Q .non H', rt := Q } (L2.start N [.ref p.1]) H) :
    FnE P w K mg base CX (k + 1) f (PySem.W.fnOf name qual params body scope dV kV doc pm an cdv ct) x sp := by
  refine ⟨fun A outer s H args Q E p D hr hot hpin hz e0 hb hsp => ?_⟩
  have KX : K.In s.heap := e0.mod.kin.keeps fun b o e => (e0.bs b o e).1
  have kinds : ∀ y ∈ [(x, Value.ref p.1)], scope.names.lookup y.1 = some .local ∨ (scope.names.lookup y.1 = some .cell ∧ ((cellsFrom (s.heap.objs.size + 1) scope.names []).lookup y.1).isSome = true) := fun y hy => by
    have : y = (x, Value.ref p.1) := List.mem_singleton.mp hy
    subst this
    exact (S.par x (List.mem_singleton.mpr rfl)).elim .inl fun q => .inr ⟨q, PySem.W.cellsFrom_some _ _ _ (.inl q)⟩
  refine codeAny_call_function hr.depth (KX _ _ lk) rfl S.co S.gen rfl (PySem.W.codeRec_of KX hcd) (hb _ _ _ _ (wpAny_newFunctionEnv_cells S.kind kinds fun env he s1 x1 => ?_))
  subst he
  refine ⟨(e0.mod.nolimit.keeps fun b o e => (e0.bs b o e).1).keeps x1.toInCall.keep, codeAny_func ?_⟩
  obtain ⟨t, ht, hq⟩ := hbody A outer s H Q E p D hot hz (hr.deeper _) hsp
  have I : Inv (cxH CX P w K mg base N qual scope f cdv A outer s H E p) [] (L2.start N [.ref p.1]) H s1 := inv_startH (us := [.ref p.1]) (ps := [x]) S hpin e0 rfl (.cons rfl .nil) x1
  refine wpAny_mono (ht.run [] s1 _ H _ I hq) (fun fl s' hs => ?_) fun e s' hs => hs
  cases fl with
  | ret u =>
    obtain ⟨v, σ', H', J, rv, q⟩ := hs
    exact ⟨v, H', J.os, J.bare, J.base, J.hok, rv, q⟩
  | next =>
    obtain ⟨σ', H', J, q⟩ := hs
    exact ⟨V.non, H', J.os, J.bare, J.base, J.hok, rfl, q⟩
  | brk =>
    obtain ⟨_, _, _, q⟩ := hs
    exact False.elim q
  | cont =>
    obtain ⟨_, _, _, q⟩ := hs
    exact False.elim q
theorem vals_ref1 {a : Addr} {us : List Value} (r : Vals [V.ref a] us) : us = [.ref a] := by
  cases r with
  | cons rx rr =>
    cases rr
    cases rx
    rfl
section
variable {X : Cx} {CX : CXT} {k : Nat} {f : Addr} {fd : FuncData} {ps : List Str} {sp : SpE} {E : L2.St → XK} {x m : Str} {q pos : Pos} {e : Expr} {t : TA}
/-- the call, the caught exception (at a, its class at D) being the argument -/
def tCallE (a D : Addr) (sp : SpE) (E : L2.St → XK) (t : TA) : TE := fun σ H Q => t σ H fun vs H1 => vs = [.ref a] ∧ sp D H1 Q (E σ)
theorem pe_callE {a D : Addr} {oe : Obj} (F : FnE X.prog X.w X.K X.mg X.base CX k f fd m sp) (hr : RoomH k X.A) (hot : Hot1 X.A (a, oe)) (hp : (a, oe) ∈ X.pn) (hz : Zc (.ref D) none oe) (hg : Gl X x) (hm : X.mg x = some (.ref f)) (hk : PySem.W.keepIn X.K (.ref f) = true) (hb : Binds X.K fd [m] []) (hx : ∀ σ, PassesAt CX X σ (E σ))
    (ha : PA X [e] t) (hdb : (x == ("__debug__" : Str)) = false := by decide) (he : starEach [e] X.env = (false, eval e X.env) :: starEach [] X.env := by rfl) (hpl : (backTo pos (starEach [] X.env)).any (·.1) = false := by rfl) :
    PE X (.Call (.Name x q) [e] [] pos) (tCallE a D sp E t) := by
  refine ⟨fun pins s σ H Q I h => ?_⟩
  refine wpAny_Call_Name_kw (ld_glob I hg hm ?_ hdb)
  refine PySem.W.callWith_K (h₀ := X.base) I.ok.mod.kin hk (thn (ha.run pos pins s σ H _ I h) fun us s1 ⟨vs, H1, I1, r, ev, qv⟩ => ⟨I1.kIn, ?_⟩) he hpl
  subst ev
  obtain rfl : us = [.ref a] := vals_ref1 r
  have b := hb s1 [.ref a] I1.kIn rfl
  have P1 := I1.pin (a, oe) (List.mem_append_left _ hp)
  have hpin : PinOk X.stack H1 s1 (a, oe) := ⟨P1.1, P1.2.1, fun hm => (List.mem_cons.mp (I1.stkSub a hm)).elim P1.2.2.1 P1.2.2.2.1, P1.2.2.2.2⟩
  refine wpAny_call (codeAny_mono (F.run X.A X.stack s1 H1 ⟨[.ref a], []⟩ Q (E σ) (a, oe) D hr hot hpin hz I1.env0 b qv) fun r s' hq => ?_)
  cases r with
  | error e => exact hx σ pins H1 s1 e s' I1 hq
  | ok fl =>
    cases fl with
    | ret u => exact I1.after hq
    | next => exact False.elim hq
    | brk => exact False.elim hq
    | cont => exact False.elim hq
/-- isinstance(e, c), e the pinned exception -/
theorem call_isP {a D : Addr} {oe : Obj} (hp : (a, oe) ∈ X.pn) (C : ExcC X.K D) (hz : Zc (.ref D) none oe) (hf : ∃ vs, oe.data = .fields vs) : CallR X (.builtin "isinstance") (rIsE X.K D a) := by
  intro pins s σ H xs us Q I r h
  obtain ⟨c, cv, b, rfl, hcv, e, q⟩ := h
  obtain ⟨u1, u2, rfl, rx, rt⟩ : ∃ u1 u2, us = [u1, u2] ∧ RelV (.ref a) u1 ∧ RelV c u2 := by
    cases r with
    | cons rx rr =>
      cases rr with
      | cons rt rr =>
        cases rr
        exact ⟨_, _, rfl, rx, rt⟩
  cases rx
  have ec := hcv _ rt
  subst ec
  obtain ⟨hget, _⟩ := I.pin (a, oe) (List.mem_append_left _ hp)
  obtain ⟨vs, hv⟩ := hf
  have J : PySem.W.InstAt s.heap a oe D none := by
    obtain ⟨oc, od, oda, osl⟩ := oe
    obtain ⟨h1, h2⟩ := hz
    dsimp only at h1 h2 hv
    subst h1 h2 hv
    exact ⟨hget, rfl, rfl, trivial⟩
  exact PySem.W.kia_one (PySem.W.handS_kitx_exc C.hg C.hk C.hs C.hd C.ha C.hn C.ht C.hm) I.kIn J e (fun z => nomatch z) fun tk => ⟨.bl b, H, I.kept (t' := tk) fun _ _ z => z, rfl, q⟩
/-- isinstance(e, (C, ..)), a new tuple of classes of the program -/
def rIsET (K : PySem.W.Frag) (D a : Addr) : List V → Hp → VK → Prop := fun xs H Q => ∃ (t : Addr) (cs : List Addr) (b : Bool), xs = [.ref a, .ref t] ∧ H t = some (.tup (cs.map V.ref)) ∧ PySem.W.kitAny K (.ref D) (cs.map Value.ref) = some b ∧ Q (.bl b) H
theorem vals_refs : ∀ (cs : List Addr) {us : List Value}, Vals (cs.map V.ref) us → us = cs.map Value.ref
  | [], us, r => by cases r; rfl
  | c :: t, us, r => by
    cases r with
    | cons rx rr =>
      cases rx
      rw [vals_refs t rr]
      rfl
theorem call_isPT {a D : Addr} {oe : Obj} (hp : (a, oe) ∈ X.pn) (C : ExcC X.K D) (hz : Zc (.ref D) none oe) (hf : ∃ vs, oe.data = .fields vs) : CallR X (.builtin "isinstance") (rIsET X.K D a) := by
  intro pins s σ H xs us Q I r h
  obtain ⟨t, cs, b, rfl, ht, e, q⟩ := h
  obtain ⟨u1, u2, rfl, rx, rt⟩ : ∃ u1 u2, us = [u1, u2] ∧ RelV (.ref a) u1 ∧ RelV (.ref t) u2 := by
    cases r with
    | cons rx rr =>
      cases rr with
      | cons rt rr =>
        cases rr
        exact ⟨_, _, rfl, rx, rt⟩
  cases rx
  cases rt
  obtain ⟨hget, _⟩ := I.pin (a, oe) (List.mem_append_left _ hp)
  obtain ⟨vs, hv⟩ := hf
  have J : PySem.W.InstAt s.heap a oe D none := by
    obtain ⟨oc, od, oda, osl⟩ := oe
    obtain ⟨h1, h2⟩ := hz
    dsimp only at h1 h2 hv
    subst h1 h2 hv
    exact ⟨hget, rfl, rfl, trivial⟩
  obtain ⟨its, rv, pt, _⟩ := I.tuple (a := t) (xs := cs.map V.ref) (.of ht)
  obtain ⟨o, ho, hc, n, hd⟩ := pt
  have ev := vals_refs cs rv
  obtain ⟨oc, od, oda, osl⟩ := o
  dsimp only at hc hd
  subst hc hd
  refine PySem.W.kia_tup (its := its) (n := n) (PySem.W.handS_kitx_exc C.hg C.hk C.hs C.hd C.ha C.hn C.ht C.hm) I.kIn J ho (by rw [ev]; exact e) (fun z => nomatch z) fun tk => ⟨.bl b, H, I.kept (t' := tk) fun _ _ z => z, rfl, q⟩
end
end UPH

set_option Elab.async false
set_option linter.all false
set_option maxRecDepth 100000
set_option maxHeartbeats 4000000
set_option pp.maxSteps 900
namespace UP
open PySem PySem.Spec PyProof.Rows L2 HotX L2H UPH
section
variable {P : Program} {w : World} {K : PySem.W.Frag} {mg : Str → Option Value} {base : Heap}
/-- the def x, called in a suite with the caught exception -/
def HasE (P : Program) (w : World) (K : PySem.W.Frag) (mg : Str → Option Value) (base : Heap) (CX : CXT) (k : Nat) (x y : Str) (sp : SpE) : Prop :=
  ∃ f fd, mg x = some (.ref f) ∧ PySem.W.keepIn K (.ref f) = true ∧ Binds K fd [y] [] ∧ FnE P w K mg base CX k f fd y sp
theorem hasE_of {CX : CXT} {x y : Str} {st : Stmt} {N : List Str} {k : Nat} {sp : SpE} (D : Df K mg x st) (S : FnScope N [y] (defScope st))
    (hb : ∀ (kV doc pm : Value) (an : Option Addr) (cdv ct : Value) (us : List Value), us.length = [y].length → bindArgs (PySem.W.fnOf x x (defArgs st) (defBody st) (defScope st) .none kV doc pm an cdv ct) ⟨us, []⟩ = pure ([y].zip us))
    (body : ∀ (f : Addr) (cdv : Value) (A : Around) (outer : List Env) (s : Shared) (H : Hp) (Q : VK) (E : XK) (p : Addr × Obj) (D : Addr), Hot1 A p → Zc (.ref D) none p.2 → RoomH k (A.deeper (envOfC x (defScope st) s.heap.objs.size f cdv)) → sp D H Q E →
      ∃ t, PSs (cxH CX P w K mg base N x (defScope st) f cdv A outer s H E p) (defBody st) t ∧ t { nx := fun _ H' => Q .non H', rt := Q } (L2.start N [.ref p.1]) H) :
    HasE P w K mg base CX (k + 1) x y sp := by
  obtain ⟨f, fd, g, F⟩ := D
  have F' := F
  obtain ⟨oc, od, kV, doc, pm, an, cdv, ct, osl, rfl, lk, hcd⟩ := F'.ex
  exact ⟨f, _, g, F.kp, F.binds hb, fn_ofE lk hcd S fun A outer s H Q E p D h z r q => body f cdv A outer s H Q E p D h z r q⟩
end
theorem pg_tupHK {X : Cx} {K : PySem.W.Frag} {es : List Expr} {k : Nat} {t : TGs} {n : Nat} {pos : Pos} (h : X.K = K) (hc : HotC X) (hp : PGs X es t)
    (hn : (assignEach es X.env).length = n := by rfl) (hst : (assignEach es X.env).findIdx? (fun z => z.1) = none := by rfl) : PG X (.Tuple es k pos) (gTup K n t) := by
  subst h
  exact pg_tupH hc hp hn hst
def mineL : List Str := ["InvalidSequence", "InvalidState", "InvalidRecord"]
def odd1 : List Str := ["Contradiction", "Impossible", "InvalidCommand", "InvalidCounts"]
def odd2 : List Str := ["InvalidEffects", "InvalidItems", "InvalidKind", "InvalidKinds"]
def odd3 : List Str := ["InvalidNumber", "InvalidPosition", "InvalidText", "NothingToUndo"]
def odd4 : List Str := ["SameEffect", "TooLong", "TooMany"]
def allL : List Str := mineL ++ (odd1 ++ (odd2 ++ (odd3 ++ odd4)))
/-- the classes stand there -/
structure CmgH (mg : Str → Option Value) (CA : Str → Addr) : Prop where
  all : ∀ n, n ∈ allL ++ [("PairError" : Str)] → mg n = some (.ref (CA n))
/-- what the class nm says of itself -/
structure ClsH (K : PySem.W.Frag) (CA : Str → Addr) (nm : Str) : Prop where
  ex : ExcC K (CA nm)
  em : PySem.W.exmOne K (.ref (CA nm)) (.ref (CA "PairError")) = some true
  ki : ∀ n, n ∈ allL → PySem.W.kitOne K (.ref (CA nm)) (.ref (CA n)) = some (decide (n = nm))
  kv : PySem.W.kitOne K (.ref (CA nm)) (.type "ValueError") = some true
section
variable {P : Program} {w : World} {K : PySem.W.Frag} {mg : Str → Option Value} {base : Heap} {CX : CXT}
/-! _law_class: slots 0:caught 1:odd 2:some 3:found 4:word 5:matches -/
abbrev s_law_class : Stmt := topS 50
theorem sc_law_class : FnScope ["caught", "odd", "some", "found", "word", "matches"] ["caught"] (defScope s_law_class) := ⟨rfl, rfl, rfl, by decide +kernel, rfl, by decide +kernel, by decide +kernel⟩
def sp_law_class (K : PySem.W.Frag) (CA : Str → Addr) : SpE := fun D H Q _ => ∃ nm, D = CA nm ∧ ClsH K CA nm ∧ nm ∈ mineL ∧ ∀ H', Same H H' → Q (.str nm) H'
theorem kit_noneH {CA : Str → Addr} {nm : Str} (C : ClsH K CA nm) (hn : nm ∈ mineL) : ∀ l : List Str, (∀ n ∈ l, n ∈ allL ∧ n ∉ mineL) → PySem.W.kitAny K (.ref (CA nm)) ((l.map CA).map Value.ref) = some false
  | [], _ => rfl
  | n :: t, h => by
    obtain ⟨h1, h2⟩ := h n (List.mem_cons_self ..)
    have e := C.ki n h1
    rw [decide_eq_false (fun z : n = nm => h2 (by rw [z]; exact hn))] at e
    exact kitAny_cons e (fun _ => kit_noneH C hn t fun x hx => h x (List.mem_cons_of_mem _ hx)) (fun z => by cases z)
theorem ok_law_class {CA : Str → Addr} (D : Df K mg "_law_class" s_law_class) (T : Tx mg) (CM : CmgH mg CA) : HasE P w K mg base CX 1 "_law_class" "caught" (sp_law_class K CA) := by
  refine hasE_of D sc_law_class (fun _ _ _ _ _ _ us hl => match us, hl with | [_], _ => rfl) (fun f cdv A outer s₀ H Q E p D1 h1 hz hr h => ?_)
  obtain ⟨nm, rfl, C, hn, q⟩ := h
  have CE := C.ex
  have hot : HotC (cxH CX P w K mg base ["caught", "odd", "some", "found", "word", "matches"] "_law_class" (defScope s_law_class) f cdv A outer s₀ H E p) := ⟨p, h1, List.mem_singleton.mpr rfl⟩
  have hp : (p.1, p.2) ∈ (cxH CX P w K mg base ["caught", "odd", "some", "found", "word", "matches"] "_law_class" (defScope s_law_class) f cdv A outer s₀ H E p).pn := List.mem_singleton.mpr rfl
  have hf : ∃ vs, p.2.data = .fields vs := by
    obtain ⟨_, vs, e, _⟩ := h1
    exact ⟨vs, e⟩
  refine ⟨_, (pss_cons (ps_set (i := 1) sc_law_class.nd rfl (by first | exact Or.inl rfl | exact Or.inr rfl) (pe_not (pe_callB (call_isP hp CE hz hf) (by rfl) T.n_isinstance (by decide +kernel) (pa_cons (pv 0) (pa_cons (pe_bltn (v := .ty "ValueError") (by rfl) T.n_ValueError (by decide +kernel) rfl) pa_nil)))))
    (pss_cons (ps_set (i := 1) sc_law_class.nd rfl (by first | exact Or.inl rfl | exact Or.inr rfl) (pe_or (pv 1) (pe_one (pe_callB (call_isPT hp CE hz hf) (by rfl) T.n_isinstance (by decide +kernel) (pa_cons (pv 0) (pa_cons (pe_tup (pa_cons (pe_glob (v := .ref (CA "Contradiction")) (by rfl) (CM.all "Contradiction" (by decide)) rfl) (pa_cons (pe_glob (v := .ref (CA "Impossible")) (by rfl) (CM.all "Impossible" (by decide)) rfl) (pa_cons (pe_glob (v := .ref (CA "InvalidCommand")) (by rfl) (CM.all "InvalidCommand" (by decide)) rfl) (pa_cons (pe_glob (v := .ref (CA "InvalidCounts")) (by rfl) (CM.all "InvalidCounts" (by decide)) rfl) pa_nil))))) pa_nil))))))
    (pss_cons (ps_set (i := 1) sc_law_class.nd rfl (by first | exact Or.inl rfl | exact Or.inr rfl) (pe_or (pv 1) (pe_one (pe_callB (call_isPT hp CE hz hf) (by rfl) T.n_isinstance (by decide +kernel) (pa_cons (pv 0) (pa_cons (pe_tup (pa_cons (pe_glob (v := .ref (CA "InvalidEffects")) (by rfl) (CM.all "InvalidEffects" (by decide)) rfl) (pa_cons (pe_glob (v := .ref (CA "InvalidItems")) (by rfl) (CM.all "InvalidItems" (by decide)) rfl) (pa_cons (pe_glob (v := .ref (CA "InvalidKind")) (by rfl) (CM.all "InvalidKind" (by decide)) rfl) (pa_cons (pe_glob (v := .ref (CA "InvalidKinds")) (by rfl) (CM.all "InvalidKinds" (by decide)) rfl) pa_nil))))) pa_nil))))))
    (pss_cons (ps_set (i := 1) sc_law_class.nd rfl (by first | exact Or.inl rfl | exact Or.inr rfl) (pe_or (pv 1) (pe_one (pe_callB (call_isPT hp CE hz hf) (by rfl) T.n_isinstance (by decide +kernel) (pa_cons (pv 0) (pa_cons (pe_tup (pa_cons (pe_glob (v := .ref (CA "InvalidNumber")) (by rfl) (CM.all "InvalidNumber" (by decide)) rfl) (pa_cons (pe_glob (v := .ref (CA "InvalidPosition")) (by rfl) (CM.all "InvalidPosition" (by decide)) rfl) (pa_cons (pe_glob (v := .ref (CA "InvalidText")) (by rfl) (CM.all "InvalidText" (by decide)) rfl) (pa_cons (pe_glob (v := .ref (CA "NothingToUndo")) (by rfl) (CM.all "NothingToUndo" (by decide)) rfl) pa_nil))))) pa_nil))))))
    (pss_cons (ps_set (i := 1) sc_law_class.nd rfl (by first | exact Or.inl rfl | exact Or.inr rfl) (pe_or (pv 1) (pe_one (pe_callB (call_isPT hp CE hz hf) (by rfl) T.n_isinstance (by decide +kernel) (pa_cons (pv 0) (pa_cons (pe_tup (pa_cons (pe_glob (v := .ref (CA "SameEffect")) (by rfl) (CM.all "SameEffect" (by decide)) rfl) (pa_cons (pe_glob (v := .ref (CA "TooLong")) (by rfl) (CM.all "TooLong" (by decide)) rfl) (pa_cons (pe_glob (v := .ref (CA "TooMany")) (by rfl) (CM.all "TooMany" (by decide)) rfl) pa_nil)))) pa_nil))))))
    (pss_cons (ps_set (i := 2) sc_law_class.nd rfl (by first | exact Or.inl rfl | exact Or.inr rfl) (pe_lst pa_nil))
    (pss_cons (ps_expr (pe_bm PySem.F.plainAttrs_list PySem.F.slot_list_append PySem.F.type_list_append mt_append (pv 2) (pa_cons (pe_tup (pa_cons pe_str (pa_cons (pe_callB (call_isP hp CE hz hf) (by rfl) T.n_isinstance (by decide +kernel) (pa_cons (pv 0) (pa_cons (pe_glob (v := .ref (CA "InvalidSequence")) (by rfl) (CM.all "InvalidSequence" (by decide)) rfl) pa_nil))) pa_nil))) pa_nil)))
    (pss_cons (ps_expr (pe_bm PySem.F.plainAttrs_list PySem.F.slot_list_append PySem.F.type_list_append mt_append (pv 2) (pa_cons (pe_tup (pa_cons pe_str (pa_cons (pe_callB (call_isP hp CE hz hf) (by rfl) T.n_isinstance (by decide +kernel) (pa_cons (pv 0) (pa_cons (pe_glob (v := .ref (CA "InvalidState")) (by rfl) (CM.all "InvalidState" (by decide)) rfl) pa_nil))) pa_nil))) pa_nil)))
    (pss_cons (ps_expr (pe_bm PySem.F.plainAttrs_list PySem.F.slot_list_append PySem.F.type_list_append mt_append (pv 2) (pa_cons (pe_tup (pa_cons pe_str (pa_cons (pe_callB (call_isP hp CE hz hf) (by rfl) T.n_isinstance (by decide +kernel) (pa_cons (pv 0) (pa_cons (pe_glob (v := .ref (CA "InvalidRecord")) (by rfl) (CM.all "InvalidRecord" (by decide)) rfl) pa_nil))) pa_nil))) pa_nil)))
    (pss_cons (ps_setLcH (i := 3) (own := [("word", 4), ("matches", 5)]) hot sc_law_class.nd rfl rfl (sw_true rfl rfl rfl (by decide +kernel)) (pv 2) (blkOk_by (N := ["caught", "odd", "some", "found", "word", "matches"]) (sc := defScope s_law_class) (by decide +kernel)) (fun _ _ _ _ _ p0 hp0 => (pg_tupHK (K := K) (n := 2) rfl ⟨p0, hp0, List.mem_singleton.mpr rfl⟩ (pgs_cons (pg_name (i := 4) sc_law_class.nd rfl (by first | exact Or.inl rfl | exact Or.inr rfl)) (pgs_cons (pg_name (i := 5) sc_law_class.nd rfl (by first | exact Or.inl rfl | exact Or.inr rfl)) pgs_nil)))) (fun _ _ _ _ _ p0 hp0 => pts_one (pt_val (pv 5))) (fun _ _ _ _ _ p0 hp0 => (pv 4)))
    (pss_one (ps_ret (pe_ifExp (PW.pt (pw_and (pt_cmpR op_eq (pe_callB call_len_seq (by rfl) T.n_len (by decide +kernel) (pa_cons (pv 3) pa_nil)) pe_int (nomark _)) (pw_and1 (pt_not (pt_val (pv 1)))))) (pe_ix ix_list (pv 3) pe_int (fun _ _ => rfl)) pe_str))))))))))))), ?_⟩
  refine ⟨_, rfl, _, _, _, rfl, (fun u r => r), C.kv, true, rfl, ?_⟩
  have kA : ∀ g : List Str, (∀ n ∈ g, n ∈ allL ∧ n ∉ mineL) → PySem.W.kitAny K (.ref (CA nm)) ((g.map CA).map Value.ref) = some false := kit_noneH C hn
  refine ⟨_, rfl, _, rfl, iteF ⟨_, rfl, (by show 4 ≤ sizeLine; decide), fun t1 n1 => ⟨t1, odd1.map CA, false, rfl, upd_same, kA odd1 (by decide +kernel), ?_⟩⟩⟩
  have s1 : Same H (upd H t1 (.tup [.ref (CA "Contradiction"), .ref (CA "Impossible"), .ref (CA "InvalidCommand"), .ref (CA "InvalidCounts")])) := same_upd n1
  generalize upd H t1 (.tup [.ref (CA "Contradiction"), .ref (CA "Impossible"), .ref (CA "InvalidCommand"), .ref (CA "InvalidCounts")]) = H1 at *
  refine ⟨_, rfl, _, rfl, iteF ⟨_, rfl, (by show 4 ≤ sizeLine; decide), fun t2 n2 => ⟨t2, odd2.map CA, false, rfl, upd_same, kA odd2 (by decide +kernel), ?_⟩⟩⟩
  have s2 : Same H1 (upd H1 t2 (.tup [.ref (CA "InvalidEffects"), .ref (CA "InvalidItems"), .ref (CA "InvalidKind"), .ref (CA "InvalidKinds")])) := same_upd n2
  generalize upd H1 t2 (.tup [.ref (CA "InvalidEffects"), .ref (CA "InvalidItems"), .ref (CA "InvalidKind"), .ref (CA "InvalidKinds")]) = H2 at *
  refine ⟨_, rfl, _, rfl, iteF ⟨_, rfl, (by show 4 ≤ sizeLine; decide), fun t3 n3 => ⟨t3, odd3.map CA, false, rfl, upd_same, kA odd3 (by decide +kernel), ?_⟩⟩⟩
  have s3 : Same H2 (upd H2 t3 (.tup [.ref (CA "InvalidNumber"), .ref (CA "InvalidPosition"), .ref (CA "InvalidText"), .ref (CA "NothingToUndo")])) := same_upd n3
  generalize upd H2 t3 (.tup [.ref (CA "InvalidNumber"), .ref (CA "InvalidPosition"), .ref (CA "InvalidText"), .ref (CA "NothingToUndo")]) = H3 at *
  refine ⟨_, rfl, _, rfl, iteF ⟨_, rfl, (by show 3 ≤ sizeLine; decide), fun t4 n4 => ⟨t4, odd4.map CA, false, rfl, upd_same, kA odd4 (by decide +kernel), ?_⟩⟩⟩
  have s4 : Same H3 (upd H3 t4 (.tup [.ref (CA "SameEffect"), .ref (CA "TooLong"), .ref (CA "TooMany")])) := same_upd n4
  generalize upd H3 t4 (.tup [.ref (CA "SameEffect"), .ref (CA "TooLong"), .ref (CA "TooMany")]) = H4 at *
  refine ⟨Nat.zero_le _, fun l nl => ?_⟩
  have sl : Same H4 (upd H4 l (.lst [])) := same_upd nl
  have hl : (upd H4 l (.lst [])) l = some (.lst []) := upd_same
  have nlH : H l = none := (((s1.trans s2).trans s3).trans s4).free nl
  have sA : Same H (upd H4 l (.lst [])) := (((s1.trans s2).trans s3).trans s4).trans sl
  generalize upd H4 l (.lst []) = HA at *
  refine ⟨_, rfl, .inl ⟨rfl, _, SqL.of hl⟩, _, rfl, _, _, _, rfl, (fun u r => r), C.ki "InvalidSequence" (by decide +kernel), (by show 2 ≤ sizeLine; decide), fun u0 m0 => ?_⟩
  have q0 : Same HA (upd HA u0 (.tup [.str "InvalidSequence", .bl (decide (("InvalidSequence" : Str) = nm))])) := same_upd m0
  have e0 : (upd HA u0 (.tup [.str "InvalidSequence", .bl (decide (("InvalidSequence" : Str) = nm))])) u0 = some (.tup [.str "InvalidSequence", .bl (decide (("InvalidSequence" : Str) = nm))]) := upd_same
  have hl := q0 _ _ hl
  have sA := sA.trans q0
  generalize upd HA u0 (.tup [.str "InvalidSequence", .bl (decide (("InvalidSequence" : Str) = nm))]) = HB0 at *
  refine ⟨l, _, _, rfl, rfl, hl, (by show 0 < sizeLine; decide), ?_⟩
  have b0 : But l HB0 (upd HB0 l (.lst ([] ++ [.ref u0]))) := but_upd
  have kk : ∀ b xs, HB0 b = some (.tup xs) → (upd HB0 l (.lst ([] ++ [.ref u0]))) b = some (.tup xs) := fun b xs e => b0 _ _ (fun z => by rw [z, hl] at e; cases e) e
  have e0 := kk _ _ e0
  have sA : Same H (upd HB0 l (.lst ([] ++ [.ref u0]))) := fun b o e => b0 _ _ (ne_of_none e nlH) (sA _ _ e)
  have hl : (upd HB0 l (.lst ([] ++ [.ref u0]))) l = some (.lst [.ref u0]) := upd_same
  clear kk b0 q0
  generalize upd HB0 l (.lst ([] ++ [.ref u0])) = HC0 at *
  refine ⟨_, rfl, .inl ⟨rfl, _, SqL.of hl⟩, _, rfl, _, _, _, rfl, (fun u r => r), C.ki "InvalidState" (by decide +kernel), (by show 2 ≤ sizeLine; decide), fun u1 m1 => ?_⟩
  have q1 : Same HC0 (upd HC0 u1 (.tup [.str "InvalidState", .bl (decide (("InvalidState" : Str) = nm))])) := same_upd m1
  have e1 : (upd HC0 u1 (.tup [.str "InvalidState", .bl (decide (("InvalidState" : Str) = nm))])) u1 = some (.tup [.str "InvalidState", .bl (decide (("InvalidState" : Str) = nm))]) := upd_same
  have hl := q1 _ _ hl
  have e0 := q1 _ _ e0
  have sA := sA.trans q1
  generalize upd HC0 u1 (.tup [.str "InvalidState", .bl (decide (("InvalidState" : Str) = nm))]) = HB1 at *
  refine ⟨l, _, _, rfl, rfl, hl, (by show 1 < sizeLine; decide), ?_⟩
  have b1 : But l HB1 (upd HB1 l (.lst ([.ref u0] ++ [.ref u1]))) := but_upd
  have kk : ∀ b xs, HB1 b = some (.tup xs) → (upd HB1 l (.lst ([.ref u0] ++ [.ref u1]))) b = some (.tup xs) := fun b xs e => b1 _ _ (fun z => by rw [z, hl] at e; cases e) e
  have e0 := kk _ _ e0
  have e1 := kk _ _ e1
  have sA : Same H (upd HB1 l (.lst ([.ref u0] ++ [.ref u1]))) := fun b o e => b1 _ _ (ne_of_none e nlH) (sA _ _ e)
  have hl : (upd HB1 l (.lst ([.ref u0] ++ [.ref u1]))) l = some (.lst [.ref u0, .ref u1]) := upd_same
  clear kk b1 q1
  generalize upd HB1 l (.lst ([.ref u0] ++ [.ref u1])) = HC1 at *
  refine ⟨_, rfl, .inl ⟨rfl, _, SqL.of hl⟩, _, rfl, _, _, _, rfl, (fun u r => r), C.ki "InvalidRecord" (by decide +kernel), (by show 2 ≤ sizeLine; decide), fun u2 m2 => ?_⟩
  have q2 : Same HC1 (upd HC1 u2 (.tup [.str "InvalidRecord", .bl (decide (("InvalidRecord" : Str) = nm))])) := same_upd m2
  have e2 : (upd HC1 u2 (.tup [.str "InvalidRecord", .bl (decide (("InvalidRecord" : Str) = nm))])) u2 = some (.tup [.str "InvalidRecord", .bl (decide (("InvalidRecord" : Str) = nm))]) := upd_same
  have hl := q2 _ _ hl
  have e0 := q2 _ _ e0
  have e1 := q2 _ _ e1
  have sA := sA.trans q2
  generalize upd HC1 u2 (.tup [.str "InvalidRecord", .bl (decide (("InvalidRecord" : Str) = nm))]) = HB2 at *
  refine ⟨l, _, _, rfl, rfl, hl, (by show 2 < sizeLine; decide), ?_⟩
  have b2 : But l HB2 (upd HB2 l (.lst ([.ref u0, .ref u1] ++ [.ref u2]))) := but_upd
  have kk : ∀ b xs, HB2 b = some (.tup xs) → (upd HB2 l (.lst ([.ref u0, .ref u1] ++ [.ref u2]))) b = some (.tup xs) := fun b xs e => b2 _ _ (fun z => by rw [z, hl] at e; cases e) e
  have e0 := kk _ _ e0
  have e1 := kk _ _ e1
  have e2 := kk _ _ e2
  have sA : Same H (upd HB2 l (.lst ([.ref u0, .ref u1] ++ [.ref u2]))) := fun b o e => b2 _ _ (ne_of_none e nlH) (sA _ _ e)
  have hl : (upd HB2 l (.lst ([.ref u0, .ref u1] ++ [.ref u2]))) l = some (.lst [.ref u0, .ref u1, .ref u2]) := upd_same
  clear kk b2 q2
  generalize upd HB2 l (.lst ([.ref u0, .ref u1] ++ [.ref u2])) = HC2 at *
  have vals : ∀ (i : Nat) (x : V), ([.ref u0, .ref u1, .ref u2] : List V)[i]? = some x → ∃ t n, x = .ref t ∧ mineL[i]? = some n ∧ HC2 t = some (.tup [.str n, .bl (decide (n = nm))]) := fun i x h => by
    have hi : i < 3 := (List.getElem?_eq_some_iff.mp h).1
    rcases (show i = 0 ∨ i = 1 ∨ i = 2 by omega) with e | e | e
    all_goals
      subst e
      cases h
      refine ⟨_, _, rfl, rfl, ?_⟩
      assumption
  refine ⟨_, rfl, l, rfl, ⟨_, .of hl⟩, fun L nL => lc_list (K := K) (a := l) (xs := [.ref u0, .ref u1, .ref u2]) (fun i H' => Same HC2 H' ∧ H' L = some (.lst (((mineL.take i).filter (fun n => decide (n = nm))).map V.str))) ⟨same_upd nL, upd_same⟩ (fun i H' _ hP => .of (hP.1 _ _ hl)) (fun i x H2 ex hP => ?_) (fun H2 hP => ?_)⟩
  · obtain ⟨sm, hL⟩ := hP
    obtain ⟨t, n, rfl, en, ht⟩ := vals i x ex
    have hi : i < 3 := (List.getElem?_eq_some_iff.mp ex).1
    have tk : mineL.take (i + 1) = mineL.take i ++ [n] := take_snoc en
    refine ⟨t, _, rfl, .of (sm _ _ ht), rfl, _, _, rfl, _, _, rfl, rfl, rfl, _, rfl, _, rfl, ?_⟩
    by_cases c : n = nm
    · refine iteP (decide_eq_true c) ⟨_, rfl, _, hL, ?_, same_grow nL sm, ?_⟩
      · rw [List.length_map]
        refine small (Nat.le_trans (List.length_filter_le ..) ?_)
        rw [List.length_take]
        omega
      · rw [upd_same, tk, List.filter_append, show [n].filter (fun n => decide (n = nm)) = [n] by simp [c], List.map_append]
        rfl
    · refine iteN (decide_eq_false c) ⟨sm, ?_⟩
      rw [tk, List.filter_append, show [n].filter (fun n => decide (n = nm)) = [] by simp [c], List.append_nil]
      exact hL
  · obtain ⟨sm, hL⟩ := hP
    have fl : (mineL.take 3).filter (fun n => decide (n = nm)) = [nm] := by
      have : ∀ n ∈ mineL, (mineL.take 3).filter (fun m => decide (m = n)) = [n] := by decide +kernel
      exact this nm hn
    have hL : H2 L = some (.lst (((mineL.take 3).filter (fun n => decide (n = nm))).map V.str)) := hL
    rw [fl] at hL
    refine ⟨_, rfl, L, _, rfl, .inl (.of hL), rfl, _, rfl, iteP rfl ⟨_, rfl, _, rfl, iteP (b := !false) rfl ⟨_, rfl, L, _, 0, _, rfl, rfl, .of hL, rfl, q _ (sA.trans sm)⟩⟩⟩
end
end UP

set_option Elab.async false
set_option linter.all false
set_option maxRecDepth 100000
set_option maxHeartbeats 4000000
set_option pp.maxSteps 900
namespace UP
open PySem PySem.Spec PyProof.Rows L2 HotX L2H UPH
theorem passAt0 {X : Cx} {E : L2.St → XK} : ∀ σ, PassesAt CX0 X σ (E σ) := fun _ _ _ _ _ _ _ h => h.elim
/-- what the suite y = f(n) asks, by the class -/
def tsCls (i j : Nat) (sp : SpE) (a : Addr) (cls : Value) (d : Option Addr) : TS := fun D σ H => ∃ C, cls = .ref C ∧ d = none ∧ tAsg (tCallE a C sp (fun _ => E0) (tCons (tVar i) tNil)) (gName j) D σ H
theorem ps_try_cls {X : Cx} {x n y fn m : Str} {c : Value} {i j k : Nat} {body : List Stmt} {np py nq fq cp ap pos pos' : Pos} {tb : WX → TS} {Wout : WX} {sp : SpE} (G : HasE X.prog X.w X.K X.mg X.base CX0 k fn m sp) (hr : RoomH k X.A) (hs : X.stack = X.env :: X.outer) (hf : X.env.frame = some X.env.locals) (hN : X.N.Nodup)
    (hi : X.N[i]? = some n) (hln : X.env.kindOf n = some .local) (hj : X.N[j]? = some y) (hjl : X.env.scope.names.lookup y = some .local) (hc : Names X x c) (tk : L2N.Takes X Wout) (hg : Gl X fn)
    (hb : ∀ (W : WX) (pn : List (Addr × Obj)) (xe : Value → Shared → Prop), L2N.Takes (X.tr pn xe) W → PassesOwn (model X.prog X.w) X.A X.env xe → PSs (X.tr pn xe) body (tb W))
    (hfn : (fn == ("__debug__" : Str)) = false := by decide) (hn1 : (n == ("__debug__" : Str)) = false := by decide) (hn2 : (n == ("__classdict__" : Str)) = false := by decide)
    (hsw : ∀ a pn, swapsWith (.Call (.Name fn fq) [.Name n nq] [] cp) (some (.Name y py)) ap.line (X.suite a pn).env = pure false := by intro _ _; rfl)
    (he : ∀ a pn, starEach [.Name n nq] (X.suite a pn).env = (false, eval (.Name n nq) (X.suite a pn).env) :: starEach [] (X.suite a pn).env := by intro _ _; rfl) :
    PS X (.Try body [.ExceptHandler (some (.Name x np)) (some n) [.Assign [.Name y py] (.Call (.Name fn fq) [.Name n nq] [] cp) ap] pos'] [] [] pos) (fun D σ H => tb (wAs X.K c i (tsCls i j sp) Wout D) D σ H) := by
  obtain ⟨f, fd, g, kp, b, F⟩ := G
  refine L2N.ps_try_as hs hf hN hi hln hc tk hb fun a oe cls d pn hz hv => ⟨fun pins s σ H D I h => ?_⟩
  obtain ⟨C, rfl, rfl, h⟩ := h
  obtain ⟨vs, hv⟩ := hv
  have hot : Hot1 (X.suite a ((a, oe) :: pn)).A (a, oe) := ⟨rfl, vs, hv, hz.2.2 vs hv⟩
  have call : PE (X.suite a ((a, oe) :: pn)) (.Call (.Name fn fq) [.Name n nq] [] cp) (tCallE a C sp (fun _ => E0) (tCons (tVar i) tNil)) :=
    pe_callE (X := X.suite a ((a, oe) :: pn)) F ⟨hr.dp, hr.un⟩ hot List.mem_cons_self hz.zc hg g kp b passAt0 (pa_cons (pe_var (X := X.suite a ((a, oe) :: pn)) hi (.inl hln) hn1 hn2) pa_nil) hfn (he _ _)
  exact (pss_one (ps_set (X := X.suite a ((a, oe) :: pn)) (i := j) hN hj (.inl hjl) call (hsw _ _) (.inr hjl))).run pins s σ H D I h
end UP

set_option Elab.async false
set_option linter.all false
set_option maxRecDepth 100000
set_option maxHeartbeats 4000000
set_option pp.maxSteps 900
namespace UP
open PySem PySem.Spec PyProof.Rows L2 HotX L2H UPH
theorem takes0N {X : Cx} : L2N.Takes X (fun _ _ _ _ => False) := fun _ _ x => by
  obtain ⟨_, _, _, _, _, _, _, _, _, _, _, _, _, _, _, _, z⟩ := x
  exact z.elim
/-- what the law's asking finds -/
def outN (door : Int) (d : Dat) : Str := if door = 0 then (if d.seq = true then "fine" else "InvalidSequence") else if door = 1 then (if d.state = true then "fine" else "InvalidState") else (if d.recd = true then "fine" else "InvalidRecord")
section
variable {P : Program} {w : World} {K : PySem.W.Frag} {mg : Str → Option Value} {base : Heap}
/-! _law_outcome: slots 0:door 1:value 2:found 3:caught -/
abbrev s_law_outcome : Stmt := topS 51
theorem sc_law_outcome : FnScope ["door", "value", "found", "caught"] ["door", "value"] (defScope s_law_outcome) := ⟨rfl, rfl, rfl, by decide +kernel, rfl, by decide +kernel, by decide +kernel⟩
def sp_law_outcome : Sp := fun vs H Q _ => ∃ (door : Int) (v : V) (d : Dat), vs = [.int door, v] ∧ Rp H v d ∧ d.fits ∧ d.fit2 ∧ (∀ r, d.stt = some r → r.2 ≤ 1000000000000000000000000000000000000000) ∧ (door = 0 ∨ door = 1 ∨ door = 2) ∧ ∀ H', Same H H' → Q (.str (outN door d)) H'
theorem ok_law_outcome {CA : Str → Addr} (D : Df K mg "_law_outcome" s_law_outcome) (CM : CmgH mg CA) (C0 : ClsH K CA "InvalidSequence") (C1 : ClsH K CA "InvalidState") (C2 : ClsH K CA "InvalidRecord") (G_law_class : HasE P w K mg base CX0 1 "_law_class" "caught" (sp_law_class K CA))
    (G_format_sequence : HasX P w K mg base 6 "format_sequence" ["sequence"] (sp_format_sequence (CA "InvalidSequence"))) (G_format_state : HasX P w K mg base 4 "format_state" ["state"] (sp_format_state (CA "InvalidState"))) (G_format_record : HasX P w K mg base 4 "format_record" ["record"] (sp_format_record (CA "InvalidRecord"))) :
    Has P w K mg base 7 "_law_outcome" ["door", "value"] sp_law_outcome := by
  refine has_of D sc_law_outcome (fun _ _ _ _ _ _ us hl => match us, hl with | [_, _], _ => rfl) (fun vs H Q E h => ?_) (fun f cdv A outer s₀ H vs Q E hr h => ?_)
  · obtain ⟨_, _, _, rfl, _⟩ := h
    rfl
  · obtain ⟨door, v, d, rfl, hv, fit, fit2, bd, hd, q⟩ := h
    refine ⟨_, (pss_cons (ps_set (i := 2) sc_law_outcome.nd rfl (by first | exact Or.inl rfl | exact Or.inr rfl) pe_str)
    (pss_cons (ps_try_cls (i := 3) (j := 2) G_law_class (roomH_of (k := 1) (hr.mono (by omega))) rfl rfl sc_law_outcome.nd rfl rfl rfl rfl ⟨rfl, by decide, .inl (CM.all "PairError" (by decide))⟩ takes0N rfl (fun W pn xe tk _ => (pss_one (ps_if (pt_cmpR op_eq (pv 0) pe_int (nomark _)) (pss_one (ps_expr (pe_callXH G_format_sequence tk (hr.mono (by omega)) (by rfl) (pa_cons (pv 1) pa_nil)))) (pss_one (ps_if (pt_cmpR op_eq (pv 0) pe_int (nomark _)) (pss_one (ps_expr (pe_callXH G_format_state tk (hr.mono (by omega)) (by rfl) (pa_cons (pv 1) pa_nil)))) (pss_one (ps_expr (pe_callXH G_format_record tk (hr.mono (by omega)) (by rfl) (pa_cons (pv 1) pa_nil))))))))))
    (pss_one (ps_ret (pv 2))))), ?_⟩
    have raise : ∀ {nm : Str}, ClsH K CA nm → nm ∈ mineL → ∀ H1, Same H H1 → outN door d = nm →
        wAs K (.ref (CA "PairError")) 3 (tsCls 3 2 (sp_law_class K CA)) (fun _ _ _ _ => False) { nx := tRet (tVar 2) { nx := fun _ H' => Q .non H', rt := Q }, rt := Q } (.ref (CA nm)) none [some (.int door), some v, some (.str "fine"), none] H1 := fun {nm} C mem H1 s1 e =>
      ⟨true, C.em, fun _ a na => ⟨CA nm, rfl, rfl, ⟨_, rfl, rfl, nm, rfl, C, mem, fun H2 s2 => ⟨_, rfl, by rw [← e]; exact q _ (s1.trans s2)⟩⟩⟩, fun z => by cases z⟩
    rcases hd with rfl | rfl | rfl
    · refine ⟨_, rfl, rfl, _, rfl, iteP rfl ?_⟩
      refine ⟨_, rfl, v, d, rfl, hv, fit, fun cs H1 z s1 => ?_, fun cs H1 s1 => ?_⟩
      · have : outN 0 d = "fine" := by unfold outN; rw [if_pos rfl, if_pos cs]
        rw [this] at q
        exact ⟨_, rfl, q _ s1⟩
      · exact raise C0 (by decide +kernel) H1 s1 (by unfold outN; rw [if_pos rfl, if_neg (by rw [cs]; decide)])
    · refine ⟨_, rfl, rfl, _, rfl, iteN (by decide) ⟨_, rfl, rfl, _, rfl, iteP rfl ?_⟩⟩
      refine ⟨_, rfl, v, d, rfl, hv, fit2, fun cs => ⟨bd, fun H1 z s1 => ?_⟩, fun cs H1 s1 => ?_⟩
      · have : outN 1 d = "fine" := by unfold outN; rw [if_neg (by decide), if_pos rfl, if_pos cs]
        rw [this] at q
        exact ⟨_, rfl, q _ s1⟩
      · exact raise C1 (by decide +kernel) H1 s1 (by unfold outN; rw [if_neg (by decide), if_pos rfl, if_neg (by rw [cs]; decide)])
    · refine ⟨_, rfl, rfl, _, rfl, iteN (by decide) ⟨_, rfl, rfl, _, rfl, iteN (by decide) ?_⟩⟩
      refine ⟨_, rfl, v, d, rfl, hv, fit, fun cs H1 z s1 => ?_, fun cs H1 s1 => ?_⟩
      · have : outN 2 d = "fine" := by unfold outN; rw [if_neg (by decide), if_neg (by decide), if_pos cs]
        rw [this] at q
        exact ⟨_, rfl, q _ s1⟩
      · exact raise C2 (by decide +kernel) H1 s1 (by unfold outN; rw [if_neg (by decide), if_neg (by decide), if_neg (by rw [cs]; decide)])
end
end UP

set_option Elab.async false
set_option linter.all false
set_option maxRecDepth 100000
set_option maxHeartbeats 4000000
set_option pp.maxSteps 300
namespace UP
open PySem PySem.Spec PyProof.Rows L2
/-! ### the bag: a list of the cells, the next one, the rest of a large one, the number of draws, a mixed number -/
structure BagS where
  ns : List Int
  i : Int
  r : Int
  d : Int
  t : Int
def Bag (H : Hp) (p cl : Addr) (n : Nat) : Prop := ∃ b : BagS, H p = some (.lst [.ref cl, .int b.i, .int b.r, .int b.d, .int b.t]) ∧ H cl = some (.lst (b.ns.map V.int)) ∧ b.ns.length ≤ 63 ∧ 0 ≤ b.i ∧ b.i ≤ b.ns.length ∧ 0 ≤ b.r ∧ 0 ≤ b.d ∧ b.d ≤ n ∧ 0 ≤ b.t ∧ b.t < 2305843009213693951
theorem Bag.same {H H' : Hp} {p cl : Addr} {n : Nat} (z : Bag H p cl n) (s : Same H H') : Bag H' p cl n := by
  obtain ⟨b, h1, h2, r⟩ := z
  exact ⟨b, s _ _ h1, s _ _ h2, r⟩
theorem Bag.mono {H : Hp} {p cl : Addr} {n m : Nat} (z : Bag H p cl n) (l : n ≤ m) : Bag H p cl m := by
  obtain ⟨b, h1, h2, h3, h4, h5, h6, h7, h8, h9⟩ := z
  exact ⟨b, h1, h2, h3, h4, h5, h6, h7, by omega, h9⟩
theorem Bag.ne {H : Hp} {p cl q : Addr} {n : Nat} (z : Bag H p cl n) (h : H q = none) : q ≠ p := by
  obtain ⟨b, h1, _⟩ := z
  exact (ne_of_none h1 h).symm
theorem bag_ints {cl : Addr} {a b c d : Int} {ns : List Int} : HO.lst (ns.map V.int) ≠ .lst [.ref cl, .int a, .int b, .int c, .int d] := by
  intro q
  cases ns with
  | nil => cases q
  | cons x t => cases q
theorem Bag.cl_ne {H : Hp} {p cl : Addr} {n : Nat} (z : Bag H p cl n) : cl ≠ p := by
  obtain ⟨b, h1, h2, _⟩ := z
  exact ne_of h2 h1 bag_ints
/-- what is kept apart from the bag's list keeps the bag -/
theorem Bag.keep {H H' : Hp} {p cl : Addr} {n : Nat} (z : Bag H p cl n) (k : ∀ o, H p = some o → H' p = some o) (c : ∀ o, H cl = some o → H' cl = some o) : Bag H' p cl n := by
  obtain ⟨b, h1, h2, r⟩ := z
  exact ⟨b, k _ h1, c _ h2, r⟩
theorem at50 {α : Type} {x y z u w : α} : atI [x, y, z, u, w] 0 = some x := rfl
theorem at51 {α : Type} {x y z u w : α} : atI [x, y, z, u, w] 1 = some y := rfl
theorem at52 {α : Type} {x y z u w : α} : atI [x, y, z, u, w] 2 = some z := rfl
theorem at53 {α : Type} {x y z u w : α} : atI [x, y, z, u, w] 3 = some u := rfl
theorem at54 {α : Type} {x y z u w : α} : atI [x, y, z, u, w] 4 = some w := rfl
theorem atI_ofB {α : Type} {l : List α} {i : Int} {x : α} (h0 : 0 ≤ i) (h : l[i.toNat]? = some x) : atI l i = some x := by
  have : i < l.length := by
    obtain ⟨q, _⟩ := List.getElem?_eq_some_iff.mp h
    omega
  unfold atI ixN
  rw [if_pos h0, if_pos (by omega)]
  exact h
theorem p18 : (10 : Int) ^ ((18 : Int).toNat) = 1000000000000000000 := by decide +kernel
theorem wideB {m : Int} (h0 : 0 ≤ m) (h1 : m ≤ 1000000000000000000000000000000000000000000000000000000000000) : m.natAbs < 2 ^ 8000 :=
  Nat.lt_of_le_of_lt (m := 1000000000000000000000000000000000000000000000000000000000000) (by omega) (by decide +kernel)
section
variable {P : Program} {w : World} {K : PySem.W.Frag} {mg : Str → Option Value} {base : Heap}
/-! _law_bag: slots 0:script 1:total 2:cell -/
abbrev s_law_bag : Stmt := topS 46
theorem sc_law_bag : FnScope ["script", "total", "cell"] ["script"] (defScope s_law_bag) := ⟨rfl, rfl, rfl, by decide +kernel, rfl, by decide +kernel, by decide +kernel⟩
def sp_law_bag (K : PySem.W.Frag) : Sp := fun vs H Q _ => ∃ (a : Addr) (ns : List Int), vs = [.ref a] ∧ SqL K H a (ns.map V.int) ∧ ns.length ≤ 63 ∧ ∀ H' p cl, Same H H' → H p = none → H cl = none → Bag H' p cl 0 → Q (.ref p) H'
theorem ok_law_bag (D : Df K mg "_law_bag" s_law_bag) (T : Tx mg) : Has P w K mg base 1 "_law_bag" ["script"] (sp_law_bag K) := by
  refine has_of D sc_law_bag (fun _ _ _ _ _ _ us hl => match us, hl with | [_], _ => rfl) (fun vs H Q E h => ?_) (fun f cdv A outer s₀ H vs Q E hr h => ?_)
  · obtain ⟨_, _, rfl, _⟩ := h
    rfl
  · obtain ⟨a, ns, rfl, hS, l63, q⟩ := h
    refine ⟨_, (pss_cons (ps_set (i := 1) sc_law_bag.nd rfl (by first | exact Or.inl rfl | exact Or.inr rfl) pe_int)
    (pss_cons (ps_for PassesOwn.never rfl (pi_list (pv 0)) (pg_name (i := 2) sc_law_bag.nd rfl (by first | exact Or.inl rfl | exact Or.inr rfl))
      (pss_one (ps_set (i := 1) sc_law_bag.nd rfl (by first | exact Or.inl rfl | exact Or.inr rfl) (pe_op op_mod (pe_op op_add (pe_op op_add (pe_op op_mul (pv 1) pe_int) (pe_op op_mod (pv 2) pe_int)) pe_int) pe_int))))
    (pss_one (ps_ret (pe_lst (pa_cons (pe_callTy call_list_of (by rfl) T.n_list (by decide +kernel) (pa_cons (pv 0) pa_nil)) (pa_cons pe_int (pa_cons pe_int (pa_cons pe_int (pa_cons (pv 1) pa_nil)))))))))), ?_⟩
    refine ⟨_, rfl, a, rfl, ⟨_, hS⟩, for_list (K := K) (a := a) (xs := ns.map V.int) (fun i σ H' => ∃ (t : Int) (y : Option V), σ = [some (.ref a), some (.int t), y] ∧ H' = H ∧ 0 ≤ t ∧ t < 2305843009213693951)
      ⟨1, none, rfl, rfl, by decide, by decide⟩ (fun i σ H' _ hP => ?_) (fun i x σ H1 ex hP => ?_) (fun σ H1 hP => ?_)⟩
    · obtain ⟨_, _, _, rfl, _⟩ := hP
      exact hS
    · obtain ⟨t, y, rfl, rfl, t0, t1⟩ := hP
      rw [List.getElem?_map] at ex
      cases e : ns[i]? with
      | none =>
        rw [e] at ex
        cases ex
      | some c =>
        rw [e] at ex
        cases ex
        refine ⟨_, rfl, _, _, rfl, rfl, .inr ⟨by decide, by decide⟩, _, rfl, _, _, rfl, rfl, (by show (0 : Int) < _; decide), _, _, rfl, rfl, _, _, rfl, rfl, _, _, rfl, rfl, (by show (0 : Int) < _; decide), ?_⟩
        exact ⟨_, _, rfl, rfl, Int.emod_nonneg _ (by decide), Int.emod_lt_of_pos _ (by decide)⟩
    · obtain ⟨t, y, rfl, rfl, t0, t1⟩ := hP
      refine ⟨_, rfl, a, _, rfl, .inl hS, fun cl ncl => ⟨_, rfl, (by show 5 ≤ sizeLine; decide), fun p np => ?_⟩⟩
      have s1 := same_upd (o := .lst (ns.map V.int)) ncl
      have s2 := same_upd (o := .lst [.ref cl, .int 0, .int 0, .int 0, .int t]) np
      exact q _ p cl (s1.trans s2) (s1.free np) ncl ⟨⟨ns, 0, 0, 0, t⟩, upd_same, s2 _ _ upd_same, l63, Int.le_refl _, by show (0 : Int) ≤ _; omega, Int.le_refl _, Int.le_refl _, by show (0 : Int) ≤ ((0 : Nat) : Int); decide, t0, t1⟩
/-! _law_stir: slots 0:number 1:place 2:one 3:two -/
abbrev s_law_stir : Stmt := topS 47
theorem sc_law_stir : FnScope ["number", "place", "one", "two"] ["number", "place"] (defScope s_law_stir) := ⟨rfl, rfl, rfl, by decide +kernel, rfl, by decide +kernel, by decide +kernel⟩
def sp_law_stir : Sp := fun vs H Q _ => ∃ (a d : Int), vs = [.int a, .int d] ∧ 0 ≤ a ∧ a < 2305843009213693951 ∧ 0 ≤ d ∧ d ≤ 1000000000000000 ∧ ∀ r, Q (.int r) H
theorem ok_law_stir (D : Df K mg "_law_stir" s_law_stir) (T : Tx mg) : Has P w K mg base 1 "_law_stir" ["number", "place"] sp_law_stir := by
  refine has_of D sc_law_stir (fun _ _ _ _ _ _ us hl => match us, hl with | [_, _], _ => rfl) (fun vs H Q E h => ?_) (fun f cdv A outer s₀ H vs Q E hr h => ?_)
  · obtain ⟨_, _, rfl, _⟩ := h
    rfl
  · obtain ⟨a, d, rfl, a0, a1, d0, d1, q⟩ := h
    refine ⟨_, (pss_cons (ps_set (i := 2) sc_law_stir.nd rfl (by first | exact Or.inl rfl | exact Or.inr rfl) (pe_op op_mod (pe_op op_add (pe_op op_add (pe_op op_mul (pv 0) pe_int) (pe_op op_mul (pv 1) pe_int)) pe_int) pe_int))
    (pss_cons (ps_set (i := 3) sc_law_stir.nd rfl (by first | exact Or.inl rfl | exact Or.inr rfl) (pe_op op_mod (pe_op op_mul (pv 2) (pv 2)) pe_int))
    (pss_one (ps_ret (pe_op op_fdiv (pe_op op_mod (pe_op op_add (pe_op op_add (pe_op op_mul (pv 3) pe_int) (pe_op op_mul (pe_op op_mul (pv 1) (pv 1)) pe_int)) (pe_op op_fdiv (pv 2) pe_int)) pe_int) pe_int))))), ?_⟩
    refine ⟨_, rfl, _, _, rfl, rfl, .inr ⟨by decide, by decide⟩, _, rfl, _, _, rfl, rfl, .inr ⟨by decide, by decide⟩, _, _, rfl, rfl, _, _, rfl, rfl, _, _, rfl, rfl, (by show (0 : Int) < _; decide), ?_⟩
    have e0 := Int.emod_nonneg (a * 998244353 + d * 1000000007 + 5) (b := 2305843009213693951) (by decide)
    have e1 := Int.emod_lt_of_pos (a * 998244353 + d * 1000000007 + 5) (b := 2305843009213693951) (by decide)
    generalize (a * 998244353 + d * 1000000007 + 5) % 2305843009213693951 = one at *
    refine ⟨_, rfl, _, rfl, _, _, rfl, rfl, .inl ⟨by omega, by omega⟩, _, _, rfl, rfl, (by show (0 : Int) < _; decide), ?_⟩
    refine ⟨_, rfl, _, _, rfl, rfl, .inr ⟨by decide, by decide⟩, _, rfl, _, rfl, _, _, rfl, rfl, .inl ⟨by omega, by omega⟩, _, _, rfl, rfl, .inr ⟨by decide, by decide⟩, _, _, rfl, rfl, _, rfl, _, _, rfl, rfl, ⟨by decide, by decide⟩, _, _, rfl, rfl, _, _, rfl, rfl, (by show (0 : Int) < _; decide), _, _, rfl, rfl, ⟨by decide, by decide⟩, q _⟩
/-! _law_draw: slots 0:bag 1:bound 2:found 3:cell -/
abbrev s_law_draw : Stmt := topS 48
theorem sc_law_draw : FnScope ["bag", "bound", "found", "cell"] ["bag", "bound"] (defScope s_law_draw) := ⟨rfl, rfl, rfl, by decide +kernel, rfl, by decide +kernel, by decide +kernel⟩
def sp_law_draw : Sp := fun vs H Q _ => ∃ (p cl : Addr) (n : Nat) (m : Int), vs = [.ref p, .int m] ∧ Bag H p cl n ∧ n + 1 ≤ 1000000000000000 ∧ 1 ≤ m ∧ m.natAbs < 2 ^ 8000 ∧ ∀ H' r, But p H H' → Bag H' p cl (n + 1) → 0 ≤ r → r < m → Q (.int r) H'
theorem ok_law_draw (D : Df K mg "_law_draw" s_law_draw) (T : Tx mg) (G_law_stir : Has P w K mg base 1 "_law_stir" ["number", "place"] sp_law_stir) : Has P w K mg base 2 "_law_draw" ["bag", "bound"] sp_law_draw := by
  refine has_of D sc_law_draw (fun _ _ _ _ _ _ us hl => match us, hl with | [_, _], _ => rfl) (fun vs H Q E h => ?_) (fun f cdv A outer s₀ H vs Q E hr h => ?_)
  · obtain ⟨_, _, _, _, rfl, _⟩ := h
    rfl
  · obtain ⟨p, cl, n, m, rfl, z, nb, m1, m2, q⟩ := h
    have z0 := z
    have cp := z.cl_ne
    obtain ⟨⟨ns, i, r, d, t⟩, hp, hc, l63, i0, i1, r0, d0, d1, t0, t1⟩ := z
    have hp : H p = some (.lst [.ref cl, .int i, .int r, .int d, .int t]) := hp
    have hc : H cl = some (.lst (ns.map V.int)) := hc
    have l63 : ns.length ≤ 63 := l63
    have i0 : 0 ≤ i := i0
    have i1 : i ≤ ns.length := i1
    have r0 : 0 ≤ r := r0
    have d0 : 0 ≤ d := d0
    have d1 : d ≤ n := d1
    have t0 : 0 ≤ t := t0
    have t1 : t < 2305843009213693951 := t1
    have e0 : ∀ x : Int, 0 ≤ x % m := fun x => Int.emod_nonneg _ (by omega)
    have e1 : ∀ x : Int, x % m < m := fun x => Int.emod_lt_of_pos _ (by omega)
    refine ⟨_, (pss_cons (ps_if (pt_cmpR op_eq (pv 1) pe_int (nomark _)) (pss_one (ps_ret pe_int)) pss_nil)
    (pss_cons (ps_asg (pe_op op_add (pe_ix ix_list (pv 0) pe_int (fun _ _ => rfl)) pe_int) (pg_sub (pv 0) pe_int set_list))
    (pss_cons (ps_if (PW.pt (pw_and (pt_cmpR op_lt (pe_ix ix_list (pv 0) pe_int (fun _ _ => rfl)) pe_int (nomark _)) (pw_and1 (pt_cmpR op_eq (pe_ix ix_list (pv 0) pe_int (fun _ _ => rfl)) (pe_callB call_len_seq (by rfl) T.n_len (by decide +kernel) (pa_cons (pe_ix ix_list (pv 0) pe_int (fun _ _ => rfl)) pa_nil)) (nomark _))))) (pss_one (ps_ret (pe_op op_mod (pe_callH G_law_stir (hr.mono (by omega)) (by rfl) (pa_cons (pe_ix ix_list (pv 0) pe_int (fun _ _ => rfl)) (pa_cons (pe_ix ix_list (pv 0) pe_int (fun _ _ => rfl)) pa_nil))) (pv 1)))) pss_nil)
    (C8.pss_cut (ps_if (pt_cmpR op_lt (pe_ix ix_list (pv 0) pe_int (fun _ _ => rfl)) pe_int (nomark _)) (pss_cons (ps_set (i := 3) sc_law_draw.nd rfl (by first | exact Or.inl rfl | exact Or.inr rfl) (pe_ix ix_list (pe_ix ix_list (pv 0) pe_int (fun _ _ => rfl)) (pe_ix ix_list (pv 0) pe_int (fun _ _ => rfl)) (fun _ _ => rfl)))
    (pss_cons (ps_asg (pe_op op_add (pe_ix ix_list (pv 0) pe_int (fun _ _ => rfl)) pe_int) (pg_sub (pv 0) pe_int set_list))
    (pss_cons (ps_if (pt_cmpR op_lt (pv 3) (pe_op op_pow pe_int pe_int) (nomark _)) (pss_one (ps_ret (pe_op op_mod (pe_callH G_law_stir (hr.mono (by omega)) (by rfl) (pa_cons (pe_op op_mod (pv 3) pe_int) (pa_cons (pe_ix ix_list (pv 0) pe_int (fun _ _ => rfl)) pa_nil))) (pv 1)))) pss_nil)
    (pss_one (ps_asg (pe_op op_sub (pv 3) (pe_op op_pow pe_int pe_int)) (pg_sub (pv 0) pe_int set_list)))))) pss_nil)
    (pss_cons (ps_set (i := 2) sc_law_draw.nd rfl (by first | exact Or.inl rfl | exact Or.inr rfl) (pe_op op_mod (pe_ix ix_list (pv 0) pe_int (fun _ _ => rfl)) (pv 1)))
    (pss_cons (ps_asg (pe_op op_fdivW (pe_ix ix_list (pv 0) pe_int (fun _ _ => rfl)) (pv 1)) (pg_sub (pv 0) pe_int set_list))
    (pss_one (ps_ret (pv 2))))))))), ?_⟩
    refine ⟨_, rfl, rfl, _, rfl, ite2 (fun _ => ?_) (fun _ => ?_)⟩
    · exact q _ _ But.refl (z0.mono (Nat.le_succ _)) (Int.le_refl _) (by omega)
    refine ⟨_, rfl, p, _, 3, _, rfl, rfl, .of hp, at53, _, _, rfl, rfl, _, rfl, p, _, 3, 3, rfl, rfl, hp, rfl, ?_⟩
    have B1 : But p H (upd H p (.lst [.ref cl, .int i, .int r, .int (d + 1), .int t])) := but_upd
    have hp1 : (upd H p (.lst [.ref cl, .int i, .int r, .int (d + 1), .int t])) p = some (.lst [.ref cl, .int i, .int r, .int (d + 1), .int t]) := upd_same
    have hc1 := B1 _ _ cp hc
    show tSeq _ _ _ _ (upd H p (.lst [.ref cl, .int i, .int r, .int (d + 1), .int t]))
    generalize upd H p (.lst [.ref cl, .int i, .int r, .int (d + 1), .int t]) = H1 at *
    have lm : (ns.map V.int).length = ns.length := List.length_map ..
    have mk : ∀ (H' : Hp) (i' r' : Int), But p H1 H' → H' p = some (.lst [.ref cl, .int i', .int r', .int (d + 1), .int t]) → 0 ≤ i' → i' ≤ ns.length → 0 ≤ r' → But p H H' ∧ Bag H' p cl (n + 1) := fun H' i' r' b hb j0 j1 k0 =>
      ⟨B1.trans b, ⟨ns, i', r', d + 1, t⟩, hb, b _ _ cp hc1, l63, j0, j1, k0, by show 0 ≤ d + 1; omega, by show d + 1 ≤ ((n + 1 : Nat) : Int); omega, t0, t1⟩
    have out : ∀ (H' : Hp) (i' r' x : Int), But p H1 H' → H' p = some (.lst [.ref cl, .int i', .int r', .int (d + 1), .int t]) → 0 ≤ i' → i' ≤ ns.length → 0 ≤ r' → Q (.int (x % m)) H' := fun H' i' r' x b hb j0 j1 k0 => by
      obtain ⟨k1, k2⟩ := mk H' i' r' b hb j0 j1 k0
      exact q _ _ k1 k2 (e0 x) (e1 x)
    refine ⟨_, rfl, p, _, 2, _, rfl, rfl, .of hp1, at52, _, _, rfl, rfl, _, rfl, ?_⟩
    have rest : ∀ (H2 : Hp) (i' r' : Int), But p H1 H2 → H2 p = some (.lst [.ref cl, .int i', .int r', .int (d + 1), .int t]) → 0 ≤ i' → i' ≤ ns.length → 0 ≤ r' →
        ∀ H3, H3 = upd H2 p (.lst [.ref cl, .int i', .int (r' / m), .int (d + 1), .int t]) → Q (.int (r' % m)) H3 := fun H2 i' r' b hb j0 j1 k0 H3 e3 => by
      subst e3
      exact out _ i' (r' / m) r' (b.trans but_upd) upd_same j0 j1 (Int.ediv_nonneg k0 (by omega))
    by_cases c2 : r < 2
    · refine iteP (decide_eq_true c2) ⟨_, rfl, p, _, 1, _, rfl, rfl, .of hp1, at51, _, rfl, p, _, 0, _, rfl, rfl, .of hp1, at50, cl, _, rfl, .inl (.of hc1), rfl, _, rfl, ?_⟩
      rw [lm]
      by_cases ci : i = ns.length
      · refine iteP (decide_eq_true (by rw [ci])) ⟨_, rfl, p, _, 4, _, rfl, rfl, .of hp1, at54, _, rfl, p, _, 3, _, rfl, rfl, .of hp1, at53, t, d + 1, rfl, t0, t1, by omega, by omega, fun x => ⟨_, rfl, _, _, rfl, rfl, (by omega), ?_⟩⟩
        exact out _ i r x But.refl hp1 i0 i1 r0
      · have ci2 : i < ns.length := by omega
        refine iteN (decide_eq_false (fun z => ci (V.int.inj z))) ?_
        obtain ⟨c, ec⟩ : ∃ c, ns[i.toNat]? = some c := ⟨_, List.getElem?_eq_getElem (by omega)⟩
        have eci : atI (ns.map V.int) i = some (.int c) := atI_ofB i0 (by rw [List.getElem?_map, ec]; rfl)
        refine ⟨fun σ' H' => ∃ i' r' y3, σ' = [some (.ref p), some (.int m), none, y3] ∧ But p H1 H' ∧ H' p = some (.lst [.ref cl, .int i', .int r', .int (d + 1), .int t]) ∧ 0 ≤ i' ∧ i' ≤ ns.length ∧ 0 ≤ r', ?_, fun σ' H2 hM => ?_⟩
        · refine ⟨_, rfl, p, _, 2, _, rfl, rfl, .of hp1, at52, _, _, rfl, rfl, _, rfl, iteP (decide_eq_true c2) ?_⟩
          refine ⟨_, rfl, p, _, 0, _, rfl, rfl, .of hp1, at50, _, rfl, p, _, 1, _, rfl, rfl, .of hp1, at51, cl, _, i, _, rfl, rfl, .of hc1, eci, ?_⟩
          refine ⟨_, rfl, p, _, 1, _, rfl, rfl, .of hp1, at51, _, _, rfl, rfl, _, rfl, p, _, 1, 1, rfl, rfl, hp1, rfl, ?_⟩
          have B2 : But p H1 (upd H1 p (.lst [.ref cl, .int (i + 1), .int r, .int (d + 1), .int t])) := but_upd
          have hp2 : (upd H1 p (.lst [.ref cl, .int (i + 1), .int r, .int (d + 1), .int t])) p = some (.lst [.ref cl, .int (i + 1), .int r, .int (d + 1), .int t]) := upd_same
          show tSeq _ _ _ _ (upd H1 p (.lst [.ref cl, .int (i + 1), .int r, .int (d + 1), .int t]))
          generalize upd H1 p (.lst [.ref cl, .int (i + 1), .int r, .int (d + 1), .int t]) = H2 at *
          refine ⟨_, rfl, _, _, rfl, rfl, ⟨by decide, by decide, by decide⟩, _, _, rfl, rfl, _, rfl, ite2 (fun c3 => ?_) (fun c3 => ?_)⟩
          · refine ⟨_, rfl, _, _, rfl, rfl, (by show (0 : Int) < _; decide), _, rfl, p, _, 3, _, rfl, rfl, .of hp2, at53, _, d + 1, rfl, Int.emod_nonneg _ (by decide), Int.emod_lt_of_pos _ (by decide), by omega, by omega, fun x => ⟨_, rfl, _, _, rfl, rfl, (by omega), ?_⟩⟩
            exact out _ (i + 1) r x B2 hp2 (by omega) (by omega) r0
          · have c3 : ¬ c < (10 : Int) ^ ((18 : Int).toNat) := fun z => c3 (decide_eq_true z)
            refine ⟨_, rfl, _, _, rfl, rfl, ⟨by decide, by decide, by decide⟩, _, _, rfl, rfl, _, rfl, p, _, 2, 2, rfl, rfl, hp2, rfl, ?_⟩
            exact ⟨i + 1, _, _, rfl, B2.trans but_upd, upd_same, by omega, by omega, by omega⟩
        · obtain ⟨i', r', y3, rfl, b2, hp2, j0, j1, k0⟩ := hM
          refine ⟨_, rfl, p, _, 2, _, rfl, rfl, .of hp2, at52, _, rfl, _, _, rfl, rfl, (by omega), ?_⟩
          refine ⟨_, rfl, p, _, 2, _, rfl, rfl, .of hp2, at52, _, rfl, _, _, rfl, rfl, wide_div (by omega) m2 (by decide) (by decide), _, rfl, p, _, 2, 2, rfl, rfl, hp2, rfl, ?_⟩
          exact ⟨_, rfl, rest H2 i' r' b2 hp2 j0 j1 k0 _ rfl⟩
    · refine iteN (decide_eq_false c2) ?_
      refine ⟨fun σ' H' => σ' = [some (.ref p), some (.int m), none, none] ∧ H' = H1, ?_, fun σ' H2 hM => ?_⟩
      · exact ⟨_, rfl, p, _, 2, _, rfl, rfl, .of hp1, at52, _, _, rfl, rfl, _, rfl, iteN (decide_eq_false c2) ⟨rfl, rfl⟩⟩
      · obtain ⟨rfl, rfl⟩ := hM
        refine ⟨_, rfl, p, _, 2, _, rfl, rfl, .of hp1, at52, _, rfl, _, _, rfl, rfl, (by omega), ?_⟩
        refine ⟨_, rfl, p, _, 2, _, rfl, rfl, .of hp1, at52, _, rfl, _, _, rfl, rfl, wide_div (by omega) m2 (by decide) (by decide), _, rfl, p, _, 2, 2, rfl, rfl, hp1, rfl, ?_⟩
        exact ⟨_, rfl, rest _ i r But.refl hp1 i0 i1 r0 _ rfl⟩
end
end UP

set_option Elab.async false
set_option linter.all false
set_option maxRecDepth 100000
set_option maxHeartbeats 4000000
namespace UP
open PySem PySem.Spec PyProof.Rows L2
/-! ### repr of values that hold an empty dict -/
mutual
def Dat.py : Dat → PyData
  | .non => .none
  | .bl b => .bool b
  | .int n => .int n
  | .str z => .str z
  | .dic => .dict []
  | .lst l => .list (Dat.pys l)
  | .tup l => .tuple (Dat.pys l)
def Dat.pys : List Dat → List PyData
  | [] => []
  | x :: t => x.py :: Dat.pys t
end
def RpK (prog : Program) (w : World) (h : Heap) (u : Value) (d : PyData) : Prop :=
  (∃ as, Reads h u d as) ∧ (d.showable = true → d.shown.length ≤ sizeLine → ∃ bs, ReadAtMost h d.depth bs ∧ ReprK prog w bs h d.depth u d.shown)
def RpKs (prog : Program) (w : World) (h : Heap) (us : List Value) (ds : List PyData) : Prop :=
  (∃ as, ReadsAll h us ds as) ∧ (PyData.showableAll ds = true → (∀ t ∈ PyData.shownAll ds, t.length ≤ sizeLine) → ∃ bs, ReadAtMost h (PyData.depthAll ds) bs ∧ ReprAllK prog w bs h (PyData.depthAll ds) us (PyData.shownAll ds))
theorem dic_reads {X : Cx} {pins : List (Addr × Obj)} {σ : L2.St} {H : Hp} {s : Shared} {a : Addr} (I : Inv X pins σ H s) (e : H a = some (.dK [])) : ∃ o n, s.heap.get? a = some o ∧ o.cls = .type "dict" ∧ o.data = .dict #[] n ∧ (a == sysModules) = false := by
  obtain ⟨_, hs, vs, kv, o, es, ep, ho, ex, hd, _, hp, _⟩ := dk_of I.hok e
  cases kv
  obtain ⟨l⟩ := es
  have hp : Pairs (mixKind X.prog X.w) l [] := hp
  cases l with
  | nil => exact ⟨o, ep, ho, ex.1, hd, hs⟩
  | cons x t => cases hp
theorem RpKs.cons {prog : Program} {w : World} {h : Heap} {u : Value} {us : List Value} {d : PyData} {ds : List PyData} (h1 : RpK prog w h u d) (h2 : RpKs prog w h us ds) : RpKs prog w h (u :: us) (d :: ds) := by
  obtain ⟨⟨as, r⟩, k1⟩ := h1
  obtain ⟨⟨bs, rs⟩, k2⟩ := h2
  refine ⟨⟨_, .cons r rs⟩, fun hs hz => ?_⟩
  have hs' : d.showable = true ∧ PyData.showableAll ds = true := by simpa [PyData.showableAll] using hs
  obtain ⟨b1, hb1, k1⟩ := k1 hs'.1 (hz _ (by simp only [PyData.shownAll]; exact List.mem_cons_self ..))
  obtain ⟨b2, hb2, k2⟩ := k2 hs'.2 (fun t ht => hz t (by simp only [PyData.shownAll]; exact List.mem_cons_of_mem _ ht))
  refine ⟨b1 ++ b2, ?_, ?_⟩
  · simp only [PyData.depthAll]
    exact (hb1.mono (Nat.le_max_left _ _)).append (hb2.mono (Nat.le_max_right _ _))
  · simp only [PyData.depthAll, PyData.shownAll]
    exact .cons ((k1.more fun b hb => List.mem_append_left _ hb).level_le (Nat.le_max_left _ _)) (k2.more_le (fun b hb => List.mem_append_right _ hb) (Nat.le_max_right _ _))
theorem RpK.list {prog : Program} {w : World} {h : Heap} {a : Addr} {o : Obj} {its : List Value} {n : Nat} {ds : List PyData} (h1 : h.get? a = some o) (h2 : o.cls = .type "list") (h3 : o.data = .seq its.toArray n) (k : RpKs prog w h its ds) : RpK prog w h (.ref a) (.list ds) := by
  obtain ⟨⟨as, h4⟩, k⟩ := k
  have r : Reads h (.ref a) (.list ds) _ := .list h1 h2 h3 h4
  refine ⟨⟨_, r⟩, fun hs hz => ?_⟩
  have hz' : (listText (PyData.shownAll ds)).length ≤ sizeLine := by simpa only [PyData.shown] using hz
  obtain ⟨bs, hb, hk⟩ := k (by simpa [PyData.showable] using hs) (fun t ht => Nat.le_trans (listText_mem_le ht) hz')
  have hna : a ∉ bs := not_mem_of_deeper r (by simp only [PyData.depth]; omega) hb
  refine ⟨a :: bs, ReadAtMost.cons r (by simp only [PyData.depth]; omega) hb, ?_⟩
  simp only [PyData.depth, PyData.shown]
  cases its with
  | nil =>
    have h4' : ReadsAll h [] ds _ := h4
    cases h4'
    simp only [PyData.shownAll, listText_nil]
    exact ReprK.listEmpty h1 h2 h3
  | cons x l => exact ReprK.list h1 h2 h3 hna (by simpa using hk.length_eq) (fun i y e => hk.item i y (by simpa using e))
theorem RpK.tuple {prog : Program} {w : World} {h : Heap} {a : Addr} {o : Obj} {its : List Value} {n : Nat} {ds : List PyData} (h1 : h.get? a = some o) (h2 : o.cls = .type "tuple") (h3 : o.data = .seq its.toArray n) (k : RpKs prog w h its ds) : RpK prog w h (.ref a) (.tuple ds) := by
  obtain ⟨⟨as, h4⟩, k⟩ := k
  have r : Reads h (.ref a) (.tuple ds) _ := .tuple h1 h2 h3 h4
  refine ⟨⟨_, r⟩, fun hs hz => ?_⟩
  have hz' : (tupleText (PyData.shownAll ds)).length ≤ sizeLine := by simpa only [PyData.shown] using hz
  obtain ⟨bs, hb, hk⟩ := k (by simpa [PyData.showable] using hs) (fun t ht => Nat.le_trans (tupleText_mem_le ht) hz')
  have hna : a ∉ bs := not_mem_of_deeper r (by simp only [PyData.depth]; omega) hb
  refine ⟨a :: bs, ReadAtMost.cons r (by simp only [PyData.depth]; omega) hb, ?_⟩
  simp only [PyData.depth, PyData.shown]
  exact ReprK.tuple h1 h2 h3 hna hk
theorem RpK.dict {prog : Program} {w : World} {h : Heap} {a : Addr} {o : Obj} {n : Nat} (h1 : h.get? a = some o) (h2 : o.cls = .type "dict") (h3 : o.data = .dict #[] n) (hs : (a == sysModules) = false) : RpK prog w h (.ref a) (.dict []) := by
  have r : Reads h (.ref a) (.dict []) _ := .dict h1 h2 h3 .nil .nil
  refine ⟨⟨_, r⟩, fun _ _ => ⟨[a], ?_, ?_⟩⟩
  · intro b hb
    rw [List.mem_singleton.mp hb]
    exact ⟨_, _, r, Nat.le_refl _⟩
  · exact ReprK.dict h1 h2 h3 hs (fun z => by cases z) .nil
theorem Rp.reprK {X : Cx} {pins : List (Addr × Obj)} {σ : L2.St} {H : Hp} {s : Shared} (I : Inv X pins σ H s) {v : V} {d : Dat} (h : Rp H v d) : ∀ u, RelV v u → RpK X.prog X.w s.heap u d.py := by
  refine Rp.rec (motive_1 := fun v d _ => ∀ u, RelV v u → RpK X.prog X.w s.heap u d.py) (motive_2 := fun xs l _ => ∀ us, Vals xs us → RpKs X.prog X.w s.heap us (Dat.pys l)) ?_ ?_ ?_ ?_ ?_ ?_ ?_ ?_ ?_ h
  · intro u r
    cases r
    exact ⟨⟨_, .none⟩, fun hs hz => ReprK.of_reads .none hs (fun z => by cases z) hz⟩
  · intro b u r
    cases r
    exact ⟨⟨_, .bool b⟩, fun hs hz => ReprK.of_reads (.bool b) hs (fun z => by cases z) hz⟩
  · intro n u r
    obtain ⟨t, rfl⟩ := r
    exact ⟨⟨_, .int n t⟩, fun hs hz => ReprK.of_reads (.int n t) hs (fun z => by cases z) hz⟩
  · intro n u r
    obtain ⟨t, rfl⟩ := r
    exact ⟨⟨_, .str n t⟩, fun hs hz => ReprK.of_reads (.str n t) hs (fun z => by cases z) hz⟩
  · intro a e u r
    cases r
    obtain ⟨o, n, h1, h2, h3, h4⟩ := dic_reads I e
    exact RpK.dict h1 h2 h3 h4
  · intro a xs l e _ ih u r
    cases r
    obtain ⟨its, rv, ⟨o, n, ho, hc, _, hd⟩, _⟩ := I.list (SqL.of e)
    exact RpK.list ho hc hd (ih its rv)
  · intro a xs l e _ ih u r
    cases r
    obtain ⟨its, rv, ⟨o, ho, hc, n, hd⟩, _⟩ := I.tuple (SqT.of e)
    exact RpK.tuple ho hc hd (ih its rv)
  · intro us r
    cases r
    exact ⟨⟨_, .nil⟩, fun _ _ => ⟨[], (fun _ h => nomatch h), by simp only [Dat.pys, PyData.shownAll]; exact .nil⟩⟩
  · intro x y xs ys _ _ h1 h2 us r
    cases r with
    | cons r1 r2 => exact RpKs.cons (h1 _ r1) (h2 _ r2)
/-- repr(xs), xs a list or a tuple of such values -/
def rReprR : List V → Hp → VK → Prop := fun xs H Q => ∃ (a : Addr) (d : Dat), xs = [.ref a] ∧ Rp H (.ref a) d ∧ d.py.showable = true ∧ d.py.depth ≤ 64 ∧ d.py.shown.length ≤ sizeLine ∧ Q (.str d.py.shown) H
theorem call_reprR {X : Cx} (hg : X.A.guards = some []) (hu : X.A.units + 70 < cLine) : CallR X (.builtin "repr") rReprR := by
  intro pins s σ H xs us Q I r h
  obtain ⟨a, d, rfl, hr, sh, dp, sz, q⟩ := h
  obtain ⟨u, rfl, ru⟩ := vals1 r
  cases (show u = Value.ref a from ru)
  have fin : ∀ h' u tk, (∀ b o, s.heap.get? b = some o → h'.get? b = some o) → EP X pins σ Q (.str d.py.shown u) { s with heap := h', toks := tk } := fun h' u tk hk => ⟨.str d.py.shown, H, I.kept (t' := tk) hk, ⟨u, rfl⟩, q⟩
  cases hr with
  | dic e =>
    obtain ⟨o, n, h1, h2, h3, h4⟩ := dic_reads I e
    have rd : Reads s.heap (.ref a) (.dict []) _ := .dict h1 h2 h3 .nil .nil
    exact repr_of_reads' rd sh (fun _ z => by
      have z : sysModules ∈ [a] := z
      rw [List.mem_singleton.mp z] at h4
      simp at h4) hg (by show X.A.units + ((PyData.dict []).depth + 1) < cLine; have : (PyData.dict []).depth ≤ 64 := dp; omega) (fun _ _ e => e) fin sz
  | @lst _ xs l e hp =>
    obtain ⟨its, rv, ⟨o, n, ho, hc, _, hd⟩, _⟩ := I.list (SqL.of e)
    have all : ∀ {xs : List V} {l : List Dat}, Paired (Rp H) xs l → ∀ us, Vals xs us → RpKs X.prog X.w s.heap us (Dat.pys l) := by
      intro xs l hp
      induction hp with
      | nil =>
        intro us r
        cases r
        exact ⟨⟨_, .nil⟩, fun _ _ => ⟨[], (fun _ h => nomatch h), by simp only [Dat.pys, PyData.shownAll]; exact .nil⟩⟩
      | cons h1 _ ih =>
        intro us r
        cases r with
        | cons r1 r2 => exact RpKs.cons (h1.reprK I _ r1) (ih _ r2)
    have k := all hp its rv
    obtain ⟨⟨as, h4⟩, k⟩ := k
    have sz' : (listText (PyData.shownAll (Dat.pys l))).length ≤ sizeLine := by simpa only [Dat.py, PyData.shown] using sz
    obtain ⟨bs, hb, hk⟩ := k (by simpa [Dat.py, PyData.showable] using sh) (fun t ht => Nat.le_trans (listText_mem_le ht) sz')
    have r : Reads s.heap (.ref a) (.list (Dat.pys l)) _ := .list ho hc hd h4
    have hna : a ∉ bs := not_mem_of_deeper r (by simp only [PyData.depth]; omega) hb
    have dp' : PyData.depthAll (Dat.pys l) + 1 ≤ 64 := by simpa only [Dat.py, PyData.depth] using dp
    simp only [Dat.py, PyData.shown] at fin
    refine call_repr_slot (by omega) ⟨o, ho, hc⟩ F.slot_list_repr.toG ?_
    cases its with
    | nil =>
      have h4' : ReadsAll s.heap [] (Dat.pys l) _ := h4
      cases hl : Dat.pys l with
      | nil =>
        rw [hl] at fin
        simp only [PyData.shownAll, listText_nil] at fin
        exact call_list_repr_empty ⟨o, ho, hc⟩ ho hd ⟨_, _, rfl, fin s.heap _ _ fun _ _ e => e⟩
      | cons x t =>
        rw [hl] at h4'
        cases h4'
    | cons x t =>
      exact call_list_reprK ho hc hd hna (by simpa using hk.length_eq) (fun i y e => hk.item i y (by simpa using e)) (g := []) hg (fun b _ => Clear.nil b) (by show X.A.units + 1 + _ < cLine; omega) (fun _ _ e => e) (fun h' u tk hk => ⟨_, _, rfl, fin h' u tk hk⟩) sz'
  | @tup _ xs l e hp =>
    obtain ⟨its, rv, ⟨o, ho, hc, n, hd⟩, _⟩ := I.tuple (SqT.of e)
    have all : ∀ {xs : List V} {l : List Dat}, Paired (Rp H) xs l → ∀ us, Vals xs us → RpKs X.prog X.w s.heap us (Dat.pys l) := by
      intro xs l hp
      induction hp with
      | nil =>
        intro us r
        cases r
        exact ⟨⟨_, .nil⟩, fun _ _ => ⟨[], (fun _ h => nomatch h), by simp only [Dat.pys, PyData.shownAll]; exact .nil⟩⟩
      | cons h1 _ ih =>
        intro us r
        cases r with
        | cons r1 r2 => exact RpKs.cons (h1.reprK I _ r1) (ih _ r2)
    have k := all hp its rv
    obtain ⟨⟨as, h4⟩, k⟩ := k
    have sz' : (tupleText (PyData.shownAll (Dat.pys l))).length ≤ sizeLine := by simpa only [Dat.py, PyData.shown] using sz
    obtain ⟨bs, hb, hk⟩ := k (by simpa [Dat.py, PyData.showable] using sh) (fun t ht => Nat.le_trans (tupleText_mem_le ht) sz')
    have r : Reads s.heap (.ref a) (.tuple (Dat.pys l)) _ := .tuple ho hc hd h4
    have hna : a ∉ bs := not_mem_of_deeper r (by simp only [PyData.depth]; omega) hb
    have dp' : PyData.depthAll (Dat.pys l) + 1 ≤ 64 := by simpa only [Dat.py, PyData.depth] using dp
    simp only [Dat.py, PyData.shown] at fin
    refine call_repr_slot (by omega) ⟨o, ho, hc⟩ F.slot_tuple_repr ?_
    exact call_tuple_reprK ho hc hd hna hk (g := []) hg (fun b _ => Clear.nil b) (by show X.A.units + 1 + _ < cLine; omega) (fun _ _ e => e) (fun h' u tk hk => ⟨_, _, rfl, fin h' u tk hk⟩) sz'
end UP

set_option Elab.async false
set_option linter.all false
set_option maxRecDepth 100000
set_option maxHeartbeats 4000000
namespace UP
open PySem PySem.Spec PyProof.Rows L2
/-! ### written values -/
def Lit (σ : L2.St) (H0 : Hp) (t : TE) (d : Dat) : Prop := ∀ H (Q : VK), Same H0 H → (∀ H' v, Same H H' → Rp H' v d → Q v H') → t σ H Q
def Lits (σ : L2.St) (H0 : Hp) (t : TA) (ds : List Dat) : Prop := ∀ H (Q : List V → Hp → Prop), Same H0 H → (∀ H' vs, Same H H' → Paired (Rp H') vs ds → Q vs H') → t σ H Q
section
variable {σ : L2.St} {H0 : Hp}
theorem Lit.go {H : Hp} {t : TE} {d : Dat} {Q : VK} (h : Lit σ H t d) (q : ∀ H' v, Same H H' → Rp H' v d → Q v H') : t σ H Q := h H Q (Same.refl _) q
theorem lit_non : Lit σ H0 (tC .non) .non := fun H Q _ q => q H _ (Same.refl _) .non
theorem lit_int {n : Int} : Lit σ H0 (tC (.int n)) (.int n) := fun H Q _ q => q H _ (Same.refl _) (.int n)
theorem lit_bl {b : Bool} : Lit σ H0 (tC (.bl b)) (.bl b) := fun H Q _ q => q H _ (Same.refl _) (.bl b)
theorem lit_str {z : Str} : Lit σ H0 (tC (.str z)) (.str z) := fun H Q _ q => q H _ (Same.refl _) (.str z)
theorem lit_dic : Lit σ H0 tDNewK .dic := fun H Q _ q p np => q _ _ (same_upd np) (.dic upd_same)
theorem lit_var {i : Nat} {v : V} {d : Dat} (e : σ[i]? = some (some v)) (h : Rp H0 v d) : Lit σ H0 (tVar i) d := fun H Q s q => ⟨v, e, q H v (Same.refl _) (h.same s)⟩
theorem lit_val {t : TE} {v : V} {d : Dat} (h : ∀ H (Q : VK), Q v H → t σ H Q) (r : ∀ H, Rp H v d) : Lit σ H0 t d := fun H Q _ q => h H Q (q H v (Same.refl _) (r H))
theorem lits_nil : Lits σ H0 tNil [] := fun H Q _ q => q H [] (Same.refl _) .nil
theorem lits_cons {t : TE} {ts : TA} {d : Dat} {ds : List Dat} (h1 : Lit σ H0 t d) (h2 : Lits σ H0 ts ds) : Lits σ H0 (tCons t ts) (d :: ds) := fun H Q s q => h1 H _ s fun H1 v s1 r1 => h2 H1 _ (s.trans s1) fun H2 vs s2 r2 => q H2 (v :: vs) (s1.trans s2) (.cons (r1.same s2) r2)
theorem rps_same {H H' : Hp} {xs : List V} {ds : List Dat} (s : Same H H') (h : Paired (Rp H) xs ds) : Paired (Rp H') xs ds := Paired.imp (fun _ _ => Rp.same s) h
theorem lit_lst {ts : TA} {ds : List Dat} (h : Lits σ H0 ts ds) (l : ds.length ≤ 1000) : Lit σ H0 (tLst ts) (.lst ds) := fun H Q s q => h H _ s fun H1 vs s1 r => ⟨by rw [Paired.len r]; exact smallE (by omega), fun p np => q _ _ (s1.trans (same_upd np)) (.lst upd_same (rps_same (same_upd np) r))⟩
theorem lit_tup {ts : TA} {ds : List Dat} (h : Lits σ H0 ts ds) (l : ds.length ≤ 1000) : Lit σ H0 (tTup ts) (.tup ds) := fun H Q s q => h H _ s fun H1 vs s1 r => ⟨by rw [Paired.len r]; exact smallE (by omega), fun p np => q _ _ (s1.trans (same_upd np)) (.tup upd_same (rps_same (same_upd np) r))⟩
theorem lit_cat {t u : TE} {a b : List Dat} (h1 : Lit σ H0 t (.lst a)) (h2 : Lit σ H0 u (.lst b)) (l : a.length + b.length ≤ 1000) : Lit σ H0 (tOp rCat t u) (.lst (a ++ b)) := fun H Q s q => h1 H _ s fun H1 v s1 r1 => h2 H1 _ (s.trans s1) fun H2 w s2 r2 => by
  cases r1.same s2 with
  | lst e1 p1 =>
    cases r2 with
    | lst e2 p2 =>
      refine ⟨_, _, _, _, rfl, rfl, e1, e2, ?_, fun p np => q _ _ (s1.trans (s2.trans (same_upd np))) (.lst upd_same (rps_same (same_upd np) (Paired.app p1 p2)))⟩
      rw [Paired.len p1, Paired.len p2]
      exact smallE (by omega)
theorem rep_pair {α β : Type} {F : α → β → Prop} {xs : List α} {ys : List β} (h : Paired F xs ys) : ∀ n : Nat, Paired F (List.replicate n xs).flatten (List.replicate n ys).flatten
  | 0 => .nil
  | n + 1 => by
    rw [List.replicate_succ, List.replicate_succ, List.flatten_cons, List.flatten_cons]
    exact Paired.app h (rep_pair h n)
theorem lit_rep {t : TE} {a : List Dat} {k : Int} (h1 : Lit σ H0 t (.lst a)) (k0 : 0 ≤ k) (k1 : k ≤ 1000) (l : a.length * k.toNat ≤ 1000) : Lit σ H0 (tOp rRep t (tC (.int k))) (.lst (List.replicate k.toNat a).flatten) := fun H Q s q => h1 H _ s fun H1 v s1 r1 => by
  cases r1 with
  | lst e1 p1 =>
    refine ⟨_, k, _, rfl, rfl, e1, by omega, by omega, ?_, fun p np => q _ _ (s1.trans (same_upd np)) (.lst upd_same (rps_same (same_upd np) (rep_pair p1 _)))⟩
    rw [Paired.len p1]
    exact smallE (by omega)
end
/-- an index into a written list -/
theorem rp_at {H : Hp} {v : V} {ds : List Dat} {i : Int} (h : Rp H v (.lst ds)) (i0 : 0 ≤ i) (i1 : i.toNat < ds.length) : ∃ a xs x, v = .ref a ∧ H a = some (.lst xs) ∧ atI xs i = some x ∧ Rp H x ds[i.toNat] := by
  cases h with
  | lst e p =>
    obtain ⟨x, ex, hx⟩ := Paired.at' p (List.getElem?_eq_getElem i1)
    exact ⟨_, _, x, rfl, e, atI_ofB i0 ex, hx⟩
theorem lit_set {t : TE} {d : Dat} {i : Nat} {D : Ends} {rest : TS} {σ : L2.St} {H : Hp} (h : Lit σ H t d) (q : ∀ H' v, Same H H' → Rp H' v d → rest D (σ.set i (some v)) H') : tSeq (tAsg t (gName i)) rest D σ H := h H _ (Same.refl _) q
theorem lit_retIx {K : PySem.W.Frag} {t u : TE} {ds : List Dat} {D : Ends} {σ : L2.St} {H : Hp} (h : Lit σ H t (.lst ds)) (q : ∀ H' v, Same H H' → Rp H' v (.lst ds) → u σ H' (fun y H2 => rIxL K v y H2 D.rt)) : tRet (tOp (rIxL K) t u) D σ H := h H _ (Same.refl _) q
end UP

set_option Elab.async false
set_option linter.all false
set_option maxRecDepth 100000
set_option maxHeartbeats 4000000
set_option pp.maxSteps 300
namespace UP
open PySem PySem.Spec PyProof.Rows L2
def noSeqs : List Dat := (([.non, .int 0, .str "a", .dic, .lst [.non], .lst [.tup [.str "a"]], .lst [.tup [.str "a", .int 0]], .lst [.tup [.str "a", .int ((10 : Int) ^ ((30 : Int).toNat) + 1)]], .lst [.tup [.str "a", .bl true]], .lst [.tup [.str "a", .str "1"]], .bl true]) ++ [.lst [.tup [.str "A", .int 1]], .lst [.tup [.str "", .int 1]], .lst [.tup [.str "abcdefghi", .int 1]], .lst [.tup [.str "a", .int 1], .tup [.str "a", .int 2]], .tup [.str "a", .int 1], .lst [.str "a1"], .lst [.tup [.str "a", .int 1, .int 1]]]) ++ [.lst (((List.replicate (200 : Int).toNat [.tup [.str "a", .int 1], .tup [.str "b", .int 1]]).flatten) ++ [.tup [.str "a", .int 1]]), .lst [.tup [.str "a", .int (-1)]], .lst [.tup [.non, .int 1]], .lst [.tup [.str "a", .non]]]
def noStates : List Dat := ([.int 0, .str "a", .str "-", .dic, .lst [], .tup [], .tup [.str "a"], .tup [.str "a", .int 0], .tup [.str "a", .int (-1)], .tup [.str "a", .bl true], .tup [.str "a", .str "1"], .tup [.str "A", .int 1], .tup [.str "", .int 1], .bl true]) ++ [.tup [.str "abcdefghi", .int 1], .tup [.str "a", .int 1, .int 1], .lst [.tup [.str "a", .int 1]], .tup [.non, .int 1], .tup [.str "a", .non], .bl false]
def noRecs : List Dat := (([.non, .int 0, .str "a", .dic, .lst [.non], .lst [.tup [.str "a"]], .lst [.tup [.str "a", .str "wait"]], .lst [.tup [.str "A", .str "waits"]], .lst [.tup [.str "a", .non]], .lst [.tup [.int 0, .str "waits"]], .bl true]) ++ [.lst ((List.replicate (401 : Int).toNat [.tup [.non, .str "waits"]]).flatten), .lst [.str "a+"], .lst [.tup [.str "?", .str "waits"]], .lst [.tup [.str "a", .str "waits", .int 1]]]) ++ [.tup [.str "a", .str "waits"], .lst [.tup [.str "", .str "leaves"]]]
section
variable {P : Program} {w : World} {K : PySem.W.Frag} {mg : Str → Option Value} {base : Heap}
/-! _law_no_sequences: slots 0:found -/
abbrev s_law_no_sequences : Stmt := topS 52
theorem sc_law_no_sequences : FnScope ["found"] [] (defScope s_law_no_sequences) := ⟨rfl, rfl, rfl, by decide +kernel, rfl, by decide +kernel, by decide +kernel⟩
def sp_law_no_sequences : Sp := fun vs H Q _ => vs = [] ∧ ∀ H' v, Same H H' → Rp H' v (.lst noSeqs) → Q v H'
theorem ok_law_no_sequences (D : Df K mg "_law_no_sequences" s_law_no_sequences) : Has P w K mg base 1 "_law_no_sequences" [] sp_law_no_sequences := by
  refine has_of D sc_law_no_sequences (fun _ _ _ _ _ _ us hl => match us, hl with | [], _ => rfl) (fun vs H Q E h => by rw [h.1]; rfl) (fun f cdv A outer s₀ H vs Q E hr h => ?_)
  obtain ⟨rfl, q⟩ := h
  refine ⟨_, (pss_cons (ps_set (i := 0) sc_law_no_sequences.nd rfl (by first | exact Or.inl rfl | exact Or.inr rfl) (pe_lst (pa_cons pe_non (pa_cons pe_int (pa_cons pe_str (pa_cons pe_dnewK (pa_cons (pe_lst (pa_cons pe_non pa_nil)) (pa_cons (pe_lst (pa_cons (pe_tup (pa_cons pe_str pa_nil)) pa_nil)) (pa_cons (pe_lst (pa_cons (pe_tup (pa_cons pe_str (pa_cons pe_int pa_nil))) pa_nil)) (pa_cons (pe_lst (pa_cons (pe_tup (pa_cons pe_str (pa_cons (pe_op op_add (pe_op op_pow pe_int pe_int) pe_int) pa_nil))) pa_nil)) (pa_cons (pe_lst (pa_cons (pe_tup (pa_cons pe_str (pa_cons pe_bl pa_nil))) pa_nil)) (pa_cons (pe_lst (pa_cons (pe_tup (pa_cons pe_str (pa_cons pe_str pa_nil))) pa_nil)) (pa_cons pe_bl pa_nil)))))))))))))
    (pss_cons (ps_set (i := 0) sc_law_no_sequences.nd rfl (by first | exact Or.inl rfl | exact Or.inr rfl) (pe_op op_cat (pv 0) (pe_lst (pa_cons (pe_lst (pa_cons (pe_tup (pa_cons pe_str (pa_cons pe_int pa_nil))) pa_nil)) (pa_cons (pe_lst (pa_cons (pe_tup (pa_cons pe_str (pa_cons pe_int pa_nil))) pa_nil)) (pa_cons (pe_lst (pa_cons (pe_tup (pa_cons pe_str (pa_cons pe_int pa_nil))) pa_nil)) (pa_cons (pe_lst (pa_cons (pe_tup (pa_cons pe_str (pa_cons pe_int pa_nil))) (pa_cons (pe_tup (pa_cons pe_str (pa_cons pe_int pa_nil))) pa_nil))) (pa_cons (pe_tup (pa_cons pe_str (pa_cons pe_int pa_nil))) (pa_cons (pe_lst (pa_cons pe_str pa_nil)) (pa_cons (pe_lst (pa_cons (pe_tup (pa_cons pe_str (pa_cons pe_int (pa_cons pe_int pa_nil)))) pa_nil)) pa_nil))))))))))
    (pss_one (ps_ret (pe_op op_cat (pv 0) (pe_lst (pa_cons (pe_op op_cat (pe_op op_rep (pe_lst (pa_cons (pe_tup (pa_cons pe_str (pa_cons pe_int pa_nil))) (pa_cons (pe_tup (pa_cons pe_str (pa_cons pe_int pa_nil))) pa_nil))) pe_int) (pe_lst (pa_cons (pe_tup (pa_cons pe_str (pa_cons pe_int pa_nil))) pa_nil))) (pa_cons (pe_lst (pa_cons (pe_tup (pa_cons pe_str (pa_cons (pe_un un_neg pe_int) pa_nil))) pa_nil)) (pa_cons (pe_lst (pa_cons (pe_tup (pa_cons pe_non (pa_cons pe_int pa_nil))) pa_nil)) (pa_cons (pe_lst (pa_cons (pe_tup (pa_cons pe_str (pa_cons pe_non pa_nil))) pa_nil)) pa_nil)))))))))), ?_⟩
  refine lit_set (d := .lst ([.non, .int 0, .str "a", .dic, .lst [.non], .lst [.tup [.str "a"]], .lst [.tup [.str "a", .int 0]], .lst [.tup [.str "a", .int ((10 : Int) ^ ((30 : Int).toNat) + 1)]], .lst [.tup [.str "a", .bl true]], .lst [.tup [.str "a", .str "1"]], .bl true])) (lit_lst (lits_cons lit_non (lits_cons lit_int (lits_cons lit_str (lits_cons lit_dic (lits_cons (lit_lst (lits_cons lit_non lits_nil) (Nat.le_of_ble_eq_true rfl)) (lits_cons (lit_lst (lits_cons (lit_tup (lits_cons lit_str lits_nil) (Nat.le_of_ble_eq_true rfl)) lits_nil) (Nat.le_of_ble_eq_true rfl)) (lits_cons (lit_lst (lits_cons (lit_tup (lits_cons lit_str (lits_cons lit_int lits_nil)) (Nat.le_of_ble_eq_true rfl)) lits_nil) (Nat.le_of_ble_eq_true rfl)) (lits_cons (lit_lst (lits_cons (lit_tup (lits_cons lit_str (lits_cons (lit_val (v := .int ((10 : Int) ^ ((30 : Int).toNat) + 1)) (fun H Q q => ⟨_, _, rfl, rfl, ⟨by decide, by decide, by decide⟩, _, _, rfl, rfl, q⟩) (fun H => .int _)) lits_nil)) (Nat.le_of_ble_eq_true rfl)) lits_nil) (Nat.le_of_ble_eq_true rfl)) (lits_cons (lit_lst (lits_cons (lit_tup (lits_cons lit_str (lits_cons lit_bl lits_nil)) (Nat.le_of_ble_eq_true rfl)) lits_nil) (Nat.le_of_ble_eq_true rfl)) (lits_cons (lit_lst (lits_cons (lit_tup (lits_cons lit_str (lits_cons lit_str lits_nil)) (Nat.le_of_ble_eq_true rfl)) lits_nil) (Nat.le_of_ble_eq_true rfl)) (lits_cons lit_bl lits_nil))))))))))) (Nat.le_of_ble_eq_true rfl)) (fun H1 v1 s1 r1 => ?_)
  refine lit_set (d := .lst (([.non, .int 0, .str "a", .dic, .lst [.non], .lst [.tup [.str "a"]], .lst [.tup [.str "a", .int 0]], .lst [.tup [.str "a", .int ((10 : Int) ^ ((30 : Int).toNat) + 1)]], .lst [.tup [.str "a", .bl true]], .lst [.tup [.str "a", .str "1"]], .bl true]) ++ [.lst [.tup [.str "A", .int 1]], .lst [.tup [.str "", .int 1]], .lst [.tup [.str "abcdefghi", .int 1]], .lst [.tup [.str "a", .int 1], .tup [.str "a", .int 2]], .tup [.str "a", .int 1], .lst [.str "a1"], .lst [.tup [.str "a", .int 1, .int 1]]])) (lit_cat (lit_var rfl r1) (lit_lst (lits_cons (lit_lst (lits_cons (lit_tup (lits_cons lit_str (lits_cons lit_int lits_nil)) (Nat.le_of_ble_eq_true rfl)) lits_nil) (Nat.le_of_ble_eq_true rfl)) (lits_cons (lit_lst (lits_cons (lit_tup (lits_cons lit_str (lits_cons lit_int lits_nil)) (Nat.le_of_ble_eq_true rfl)) lits_nil) (Nat.le_of_ble_eq_true rfl)) (lits_cons (lit_lst (lits_cons (lit_tup (lits_cons lit_str (lits_cons lit_int lits_nil)) (Nat.le_of_ble_eq_true rfl)) lits_nil) (Nat.le_of_ble_eq_true rfl)) (lits_cons (lit_lst (lits_cons (lit_tup (lits_cons lit_str (lits_cons lit_int lits_nil)) (Nat.le_of_ble_eq_true rfl)) (lits_cons (lit_tup (lits_cons lit_str (lits_cons lit_int lits_nil)) (Nat.le_of_ble_eq_true rfl)) lits_nil)) (Nat.le_of_ble_eq_true rfl)) (lits_cons (lit_tup (lits_cons lit_str (lits_cons lit_int lits_nil)) (Nat.le_of_ble_eq_true rfl)) (lits_cons (lit_lst (lits_cons lit_str lits_nil) (Nat.le_of_ble_eq_true rfl)) (lits_cons (lit_lst (lits_cons (lit_tup (lits_cons lit_str (lits_cons lit_int (lits_cons lit_int lits_nil))) (Nat.le_of_ble_eq_true rfl)) lits_nil) (Nat.le_of_ble_eq_true rfl)) lits_nil))))))) (Nat.le_of_ble_eq_true rfl)) (Nat.le_of_ble_eq_true rfl)) (fun H2 v2 s2 r2 => ?_)
  exact Lit.go (lit_cat (lit_var rfl r2) (lit_lst (lits_cons (lit_cat (lit_rep (lit_lst (lits_cons (lit_tup (lits_cons lit_str (lits_cons lit_int lits_nil)) (Nat.le_of_ble_eq_true rfl)) (lits_cons (lit_tup (lits_cons lit_str (lits_cons lit_int lits_nil)) (Nat.le_of_ble_eq_true rfl)) lits_nil)) (Nat.le_of_ble_eq_true rfl)) (by decide) (by decide) (Nat.le_of_ble_eq_true rfl)) (lit_lst (lits_cons (lit_tup (lits_cons lit_str (lits_cons lit_int lits_nil)) (Nat.le_of_ble_eq_true rfl)) lits_nil) (Nat.le_of_ble_eq_true rfl)) (Nat.le_of_ble_eq_true rfl)) (lits_cons (lit_lst (lits_cons (lit_tup (lits_cons lit_str (lits_cons (lit_val (v := .int (-1)) (fun H Q q => ⟨1, rfl, q⟩) (fun H => .int _)) lits_nil)) (Nat.le_of_ble_eq_true rfl)) lits_nil) (Nat.le_of_ble_eq_true rfl)) (lits_cons (lit_lst (lits_cons (lit_tup (lits_cons lit_non (lits_cons lit_int lits_nil)) (Nat.le_of_ble_eq_true rfl)) lits_nil) (Nat.le_of_ble_eq_true rfl)) (lits_cons (lit_lst (lits_cons (lit_tup (lits_cons lit_str (lits_cons lit_non lits_nil)) (Nat.le_of_ble_eq_true rfl)) lits_nil) (Nat.le_of_ble_eq_true rfl)) lits_nil)))) (Nat.le_of_ble_eq_true rfl)) (Nat.le_of_ble_eq_true rfl)) (fun H9 v9 s9 r9 => q H9 v9 ((s1.trans s2).trans s9) r9)
/-! _law_no_states: slots 0:found -/
abbrev s_law_no_states : Stmt := topS 53
theorem sc_law_no_states : FnScope ["found"] [] (defScope s_law_no_states) := ⟨rfl, rfl, rfl, by decide +kernel, rfl, by decide +kernel, by decide +kernel⟩
def sp_law_no_states : Sp := fun vs H Q _ => vs = [] ∧ ∀ H' v, Same H H' → Rp H' v (.lst noStates) → Q v H'
theorem ok_law_no_states (D : Df K mg "_law_no_states" s_law_no_states) : Has P w K mg base 1 "_law_no_states" [] sp_law_no_states := by
  refine has_of D sc_law_no_states (fun _ _ _ _ _ _ us hl => match us, hl with | [], _ => rfl) (fun vs H Q E h => by rw [h.1]; rfl) (fun f cdv A outer s₀ H vs Q E hr h => ?_)
  obtain ⟨rfl, q⟩ := h
  refine ⟨_, (pss_cons (ps_set (i := 0) sc_law_no_states.nd rfl (by first | exact Or.inl rfl | exact Or.inr rfl) (pe_lst (pa_cons pe_int (pa_cons pe_str (pa_cons pe_str (pa_cons pe_dnewK (pa_cons (pe_lst pa_nil) (pa_cons (pe_tup pa_nil) (pa_cons (pe_tup (pa_cons pe_str pa_nil)) (pa_cons (pe_tup (pa_cons pe_str (pa_cons pe_int pa_nil))) (pa_cons (pe_tup (pa_cons pe_str (pa_cons (pe_un un_neg pe_int) pa_nil))) (pa_cons (pe_tup (pa_cons pe_str (pa_cons pe_bl pa_nil))) (pa_cons (pe_tup (pa_cons pe_str (pa_cons pe_str pa_nil))) (pa_cons (pe_tup (pa_cons pe_str (pa_cons pe_int pa_nil))) (pa_cons (pe_tup (pa_cons pe_str (pa_cons pe_int pa_nil))) (pa_cons pe_bl pa_nil))))))))))))))))
    (pss_one (ps_ret (pe_op op_cat (pv 0) (pe_lst (pa_cons (pe_tup (pa_cons pe_str (pa_cons pe_int pa_nil))) (pa_cons (pe_tup (pa_cons pe_str (pa_cons pe_int (pa_cons pe_int pa_nil)))) (pa_cons (pe_lst (pa_cons (pe_tup (pa_cons pe_str (pa_cons pe_int pa_nil))) pa_nil)) (pa_cons (pe_tup (pa_cons pe_non (pa_cons pe_int pa_nil))) (pa_cons (pe_tup (pa_cons pe_str (pa_cons pe_non pa_nil))) (pa_cons pe_bl pa_nil))))))))))), ?_⟩
  refine lit_set (d := .lst ([.int 0, .str "a", .str "-", .dic, .lst [], .tup [], .tup [.str "a"], .tup [.str "a", .int 0], .tup [.str "a", .int (-1)], .tup [.str "a", .bl true], .tup [.str "a", .str "1"], .tup [.str "A", .int 1], .tup [.str "", .int 1], .bl true])) (lit_lst (lits_cons lit_int (lits_cons lit_str (lits_cons lit_str (lits_cons lit_dic (lits_cons (lit_lst lits_nil (Nat.le_of_ble_eq_true rfl)) (lits_cons (lit_tup lits_nil (Nat.le_of_ble_eq_true rfl)) (lits_cons (lit_tup (lits_cons lit_str lits_nil) (Nat.le_of_ble_eq_true rfl)) (lits_cons (lit_tup (lits_cons lit_str (lits_cons lit_int lits_nil)) (Nat.le_of_ble_eq_true rfl)) (lits_cons (lit_tup (lits_cons lit_str (lits_cons (lit_val (v := .int (-1)) (fun H Q q => ⟨1, rfl, q⟩) (fun H => .int _)) lits_nil)) (Nat.le_of_ble_eq_true rfl)) (lits_cons (lit_tup (lits_cons lit_str (lits_cons lit_bl lits_nil)) (Nat.le_of_ble_eq_true rfl)) (lits_cons (lit_tup (lits_cons lit_str (lits_cons lit_str lits_nil)) (Nat.le_of_ble_eq_true rfl)) (lits_cons (lit_tup (lits_cons lit_str (lits_cons lit_int lits_nil)) (Nat.le_of_ble_eq_true rfl)) (lits_cons (lit_tup (lits_cons lit_str (lits_cons lit_int lits_nil)) (Nat.le_of_ble_eq_true rfl)) (lits_cons lit_bl lits_nil)))))))))))))) (Nat.le_of_ble_eq_true rfl)) (fun H1 v1 s1 r1 => ?_)
  exact Lit.go (lit_cat (lit_var rfl r1) (lit_lst (lits_cons (lit_tup (lits_cons lit_str (lits_cons lit_int lits_nil)) (Nat.le_of_ble_eq_true rfl)) (lits_cons (lit_tup (lits_cons lit_str (lits_cons lit_int (lits_cons lit_int lits_nil))) (Nat.le_of_ble_eq_true rfl)) (lits_cons (lit_lst (lits_cons (lit_tup (lits_cons lit_str (lits_cons lit_int lits_nil)) (Nat.le_of_ble_eq_true rfl)) lits_nil) (Nat.le_of_ble_eq_true rfl)) (lits_cons (lit_tup (lits_cons lit_non (lits_cons lit_int lits_nil)) (Nat.le_of_ble_eq_true rfl)) (lits_cons (lit_tup (lits_cons lit_str (lits_cons lit_non lits_nil)) (Nat.le_of_ble_eq_true rfl)) (lits_cons lit_bl lits_nil)))))) (Nat.le_of_ble_eq_true rfl)) (Nat.le_of_ble_eq_true rfl)) (fun H9 v9 s9 r9 => q H9 v9 (s1.trans s9) r9)
/-! _law_no_records: slots 0:found -/
abbrev s_law_no_records : Stmt := topS 54
theorem sc_law_no_records : FnScope ["found"] [] (defScope s_law_no_records) := ⟨rfl, rfl, rfl, by decide +kernel, rfl, by decide +kernel, by decide +kernel⟩
def sp_law_no_records : Sp := fun vs H Q _ => vs = [] ∧ ∀ H' v, Same H H' → Rp H' v (.lst noRecs) → Q v H'
theorem ok_law_no_records (D : Df K mg "_law_no_records" s_law_no_records) : Has P w K mg base 1 "_law_no_records" [] sp_law_no_records := by
  refine has_of D sc_law_no_records (fun _ _ _ _ _ _ us hl => match us, hl with | [], _ => rfl) (fun vs H Q E h => by rw [h.1]; rfl) (fun f cdv A outer s₀ H vs Q E hr h => ?_)
  obtain ⟨rfl, q⟩ := h
  refine ⟨_, (pss_cons (ps_set (i := 0) sc_law_no_records.nd rfl (by first | exact Or.inl rfl | exact Or.inr rfl) (pe_lst (pa_cons pe_non (pa_cons pe_int (pa_cons pe_str (pa_cons pe_dnewK (pa_cons (pe_lst (pa_cons pe_non pa_nil)) (pa_cons (pe_lst (pa_cons (pe_tup (pa_cons pe_str pa_nil)) pa_nil)) (pa_cons (pe_lst (pa_cons (pe_tup (pa_cons pe_str (pa_cons pe_str pa_nil))) pa_nil)) (pa_cons (pe_lst (pa_cons (pe_tup (pa_cons pe_str (pa_cons pe_str pa_nil))) pa_nil)) (pa_cons (pe_lst (pa_cons (pe_tup (pa_cons pe_str (pa_cons pe_non pa_nil))) pa_nil)) (pa_cons (pe_lst (pa_cons (pe_tup (pa_cons pe_int (pa_cons pe_str pa_nil))) pa_nil)) (pa_cons pe_bl pa_nil)))))))))))))
    (pss_cons (ps_set (i := 0) sc_law_no_records.nd rfl (by first | exact Or.inl rfl | exact Or.inr rfl) (pe_op op_cat (pv 0) (pe_lst (pa_cons (pe_op op_rep (pe_lst (pa_cons (pe_tup (pa_cons pe_non (pa_cons pe_str pa_nil))) pa_nil)) pe_int) (pa_cons (pe_lst (pa_cons pe_str pa_nil)) (pa_cons (pe_lst (pa_cons (pe_tup (pa_cons pe_str (pa_cons pe_str pa_nil))) pa_nil)) (pa_cons (pe_lst (pa_cons (pe_tup (pa_cons pe_str (pa_cons pe_str (pa_cons pe_int pa_nil)))) pa_nil)) pa_nil)))))))
    (pss_one (ps_ret (pe_op op_cat (pv 0) (pe_lst (pa_cons (pe_tup (pa_cons pe_str (pa_cons pe_str pa_nil))) (pa_cons (pe_lst (pa_cons (pe_tup (pa_cons pe_str (pa_cons pe_str pa_nil))) pa_nil)) pa_nil)))))))), ?_⟩
  refine lit_set (d := .lst ([.non, .int 0, .str "a", .dic, .lst [.non], .lst [.tup [.str "a"]], .lst [.tup [.str "a", .str "wait"]], .lst [.tup [.str "A", .str "waits"]], .lst [.tup [.str "a", .non]], .lst [.tup [.int 0, .str "waits"]], .bl true])) (lit_lst (lits_cons lit_non (lits_cons lit_int (lits_cons lit_str (lits_cons lit_dic (lits_cons (lit_lst (lits_cons lit_non lits_nil) (Nat.le_of_ble_eq_true rfl)) (lits_cons (lit_lst (lits_cons (lit_tup (lits_cons lit_str lits_nil) (Nat.le_of_ble_eq_true rfl)) lits_nil) (Nat.le_of_ble_eq_true rfl)) (lits_cons (lit_lst (lits_cons (lit_tup (lits_cons lit_str (lits_cons lit_str lits_nil)) (Nat.le_of_ble_eq_true rfl)) lits_nil) (Nat.le_of_ble_eq_true rfl)) (lits_cons (lit_lst (lits_cons (lit_tup (lits_cons lit_str (lits_cons lit_str lits_nil)) (Nat.le_of_ble_eq_true rfl)) lits_nil) (Nat.le_of_ble_eq_true rfl)) (lits_cons (lit_lst (lits_cons (lit_tup (lits_cons lit_str (lits_cons lit_non lits_nil)) (Nat.le_of_ble_eq_true rfl)) lits_nil) (Nat.le_of_ble_eq_true rfl)) (lits_cons (lit_lst (lits_cons (lit_tup (lits_cons lit_int (lits_cons lit_str lits_nil)) (Nat.le_of_ble_eq_true rfl)) lits_nil) (Nat.le_of_ble_eq_true rfl)) (lits_cons lit_bl lits_nil))))))))))) (Nat.le_of_ble_eq_true rfl)) (fun H1 v1 s1 r1 => ?_)
  refine lit_set (d := .lst (([.non, .int 0, .str "a", .dic, .lst [.non], .lst [.tup [.str "a"]], .lst [.tup [.str "a", .str "wait"]], .lst [.tup [.str "A", .str "waits"]], .lst [.tup [.str "a", .non]], .lst [.tup [.int 0, .str "waits"]], .bl true]) ++ [.lst ((List.replicate (401 : Int).toNat [.tup [.non, .str "waits"]]).flatten), .lst [.str "a+"], .lst [.tup [.str "?", .str "waits"]], .lst [.tup [.str "a", .str "waits", .int 1]]])) (lit_cat (lit_var rfl r1) (lit_lst (lits_cons (lit_rep (lit_lst (lits_cons (lit_tup (lits_cons lit_non (lits_cons lit_str lits_nil)) (Nat.le_of_ble_eq_true rfl)) lits_nil) (Nat.le_of_ble_eq_true rfl)) (by decide) (by decide) (Nat.le_of_ble_eq_true rfl)) (lits_cons (lit_lst (lits_cons lit_str lits_nil) (Nat.le_of_ble_eq_true rfl)) (lits_cons (lit_lst (lits_cons (lit_tup (lits_cons lit_str (lits_cons lit_str lits_nil)) (Nat.le_of_ble_eq_true rfl)) lits_nil) (Nat.le_of_ble_eq_true rfl)) (lits_cons (lit_lst (lits_cons (lit_tup (lits_cons lit_str (lits_cons lit_str (lits_cons lit_int lits_nil))) (Nat.le_of_ble_eq_true rfl)) lits_nil) (Nat.le_of_ble_eq_true rfl)) lits_nil)))) (Nat.le_of_ble_eq_true rfl)) (Nat.le_of_ble_eq_true rfl)) (fun H2 v2 s2 r2 => ?_)
  exact Lit.go (lit_cat (lit_var rfl r2) (lit_lst (lits_cons (lit_tup (lits_cons lit_str (lits_cons lit_str lits_nil)) (Nat.le_of_ble_eq_true rfl)) (lits_cons (lit_lst (lits_cons (lit_tup (lits_cons lit_str (lits_cons lit_str lits_nil)) (Nat.le_of_ble_eq_true rfl)) lits_nil) (Nat.le_of_ble_eq_true rfl)) lits_nil)) (Nat.le_of_ble_eq_true rfl)) (Nat.le_of_ble_eq_true rfl)) (fun H9 v9 s9 r9 => q H9 v9 ((s1.trans s2).trans s9) r9)
end
end UP

set_option Elab.async false
set_option linter.all false
set_option maxRecDepth 100000
set_option maxHeartbeats 4000000
set_option pp.maxSteps 600
namespace UP
open PySem PySem.Spec PyProof.Rows L2
theorem pe_bmK {X : Cx} {K : PySem.W.Frag} {e : Expr} {c : String} {r : V → List V → Hp → VK → Prop} {to : TE} {t : TA} (h : X.K = K) (p : PE X e (tBM X.K c r to t)) : PE X e (tBM K c r to t) := h ▸ p
section
variable {P : Program} {w : World} {K : PySem.W.Frag} {mg : Str → Option Value} {base : Heap}
/-! _law_shuffled: slots 0:bag 1:items 2:left 3:step -/
abbrev s_law_shuffled : Stmt := topS 49
theorem sc_law_shuffled : FnScope ["bag", "items", "left", "step"] ["bag", "items"] (defScope s_law_shuffled) := ⟨rfl, rfl, rfl, by decide +kernel, rfl, by decide +kernel, by decide +kernel⟩
def sp_law_shuffled : Sp := fun vs H Q _ => ∃ (p cl a : Addr) (n : Nat) (xs : List V), vs = [.ref p, .ref a] ∧ Bag H p cl n ∧ n ≤ 100000000 ∧ H a = some (.lst xs) ∧ a ≠ p ∧ xs.length ≤ 1000 ∧
  ∀ (H' : Hp) (L : Addr) (ys : List V), But p H H' → Bag H' p cl (n + 1000) → H L = none → H' L = some (.lst ys) → ys.length ≤ 1000 → (∀ y ∈ ys, y ∈ xs) → Q (.ref L) H'
theorem ok_law_shuffled (D : Df K mg "_law_shuffled" s_law_shuffled) (T : Tx mg) (G_law_draw : Has P w K mg base 2 "_law_draw" ["bag", "bound"] sp_law_draw) : Has P w K mg base 3 "_law_shuffled" ["bag", "items"] sp_law_shuffled := by
  refine has_of D sc_law_shuffled (fun _ _ _ _ _ _ us hl => match us, hl with | [_, _], _ => rfl) (fun vs H Q E h => ?_) (fun f cdv A outer s₀ H vs Q E hr h => ?_)
  · obtain ⟨_, _, _, _, _, rfl, _⟩ := h
    rfl
  · obtain ⟨p, cl, a, n, xs, rfl, z, ln, ha, ap, l4, q⟩ := h
    refine ⟨_, (pss_cons (ps_set (i := 2) sc_law_shuffled.nd rfl (by first | exact Or.inl rfl | exact Or.inr rfl) (pe_callTy call_list_of (by rfl) T.n_list (by decide +kernel) (pa_cons (pv 1) pa_nil)))
    (pss_one (ps_ret (pe_lc (own := [("step", 3)]) rfl sc_law_shuffled.nd (pi_range1 (by rfl) T.n_range (pa_cons (pe_callB call_len_seq (by rfl) T.n_len (by decide +kernel) (pa_cons (pv 1) pa_nil)) pa_nil)) (blkOk_by (N := ["bag", "items", "left", "step"]) (sc := defScope s_law_shuffled) (by decide +kernel)) (fun _ _ _ _ _ => (pg_name (i := 3) sc_law_shuffled.nd rfl (by first | exact Or.inl rfl | exact Or.inr rfl))) (fun _ _ _ _ _ => pts_nil) (fun _ _ _ _ _ => (pe_bmK (K := K) rfl (pe_bm PySem.F.plainAttrs_list PySem.F.slot_list_pop PySem.F.type_list_pop mt_popAt (pv 2) (pa_cons (pe_callH G_law_draw (hr.mono (by omega)) (by rfl) (pa_cons (pv 0) (pa_cons (pe_callB (call_len_seqK (K := K) rfl) (by rfl) T.n_len (by decide +kernel) (pa_cons (pv 2) pa_nil)) pa_nil))) pa_nil)))))))), ?_⟩
    refine ⟨_, rfl, a, xs, rfl, .inl (.of ha), fun l nl => ?_⟩
    have lp := z.ne nl
    have sl := same_upd (o := .lst xs) nl
    have hl : (upd H l (.lst xs)) l = some (.lst xs) := upd_same
    obtain ⟨_, _, hcl, _⟩ := id z
    have cL : cl ≠ l := ne_of_none hcl nl
    have z1 := z.same sl
    have ha1 := sl _ _ ha
    have s1 : Same H (upd H l (.lst xs)) := sl
    generalize upd H l (.lst xs) = H1 at *
    refine ⟨_, rfl, a, _, rfl, .inl (.of ha1), _, rfl, by omega, by omega, fun L nL => ?_⟩
    have Lp := z1.ne nL
    have lL : l ≠ L := ne_of_none hl nL
    have nlH : H l = none := nl
    have nLH : H L = none := s1.free nL
    have cLL : cl ≠ L := ne_of_none hcl nLH
    refine lc_range (lo := 0) (n := _) (fun i H' => ∃ zs ys : List V, But p H H' ∧ Bag H' p cl (n + i) ∧ H' l = some (.lst zs) ∧ zs.length + i = xs.length ∧ (∀ y ∈ zs, y ∈ xs) ∧ H' L = some (.lst ys) ∧ ys.length = i ∧ (∀ y ∈ ys, y ∈ xs))
      ⟨xs, [], (Same.but s1).trans (Same.but (same_upd nL)), z1.same (same_upd nL), same_upd nL _ _ hl, rfl, (fun _ h => h), upd_same, rfl, (fun _ h => by cases h)⟩ (fun i H3 hi hP => ?_) (fun H3 hP => ?_)
    · obtain ⟨zs, ys, b3, z3, hz, lz, mz, hL, ly, my⟩ := hP
      have hi : i < xs.length := by
        have hi : i < _ := hi
        omega
      refine ⟨rfl, yesT ⟨_, rfl, .inl ⟨rfl, _, SqL.of hz⟩, _, rfl, _, rfl, l, _, rfl, .inl (.of hz), p, cl, n + i, _, rfl, z3, by omega, by omega, wideB (by omega) (by omega), fun H4 r4 b4 z4 r40 r41 => ?_⟩⟩
      have lt : r4.toNat < zs.length := by omega
      have h4 := b4 _ _ lp hz
      have hL4 := b4 _ _ Lp hL
      have ix : seqIndex? r4 zs.length = some r4.toNat := by
        unfold seqIndex?
        have e1 : ¬ r4 < 0 := by omega
        simp only [e1, if_false]
        rw [if_pos]
        simp
        omega
      refine ⟨l, _, r4, r4.toNat, _, rfl, rfl, h4, by omega, by omega, ix, List.getElem?_eq_getElem lt, ys, ?_, small (by omega), zs.eraseIdx r4.toNat, ys ++ [zs[r4.toNat]], ?_, ?_, ?_, ?_, ?_, ?_, ?_, ?_⟩
      · rw [upd_ne lL.symm]
        exact hL4
      · intro b o nb eb
        have e1 : b ≠ L := ne_of_none eb nLH
        have e2 : b ≠ l := ne_of_none eb nlH
        rw [upd_ne e1, upd_ne e2]
        exact b4 b o nb (b3 b o nb eb)
      · exact (z4.keep (fun o e => by rw [upd_ne Lp.symm, upd_ne lp.symm]; exact e) (fun o e => by rw [upd_ne cLL, upd_ne cL]; exact e)).mono (by omega)
      · rw [upd_ne lL, upd_same]
      · rw [List.length_eraseIdx_of_lt lt]
        omega
      · intro y hy
        exact mz y (List.mem_of_mem_eraseIdx hy)
      · rw [upd_same]
      · rw [List.length_append, ly]
        rfl
      · intro y hy
        rcases List.mem_append.mp hy with h | h
        · exact my y h
        · rw [List.mem_singleton.mp h]
          exact mz _ (List.getElem_mem lt)
    · obtain ⟨zs, ys, b3, z3, hz, lz, mz, hL, ly, my⟩ := hP
      exact q H3 L ys b3 (z3.mono (by omega)) nLH hL (by omega) my
end
end UP

set_option Elab.async false
set_option linter.all false
set_option maxRecDepth 100000
set_option maxHeartbeats 4000000
set_option pp.maxSteps 600
namespace UP
open PySem PySem.Spec PyProof.Rows L2
/-! ### no list among the parts has this length -/
mutual
def Dat.cm (m : Nat) : Dat → Bool
  | .lst l => decide (l.length ≠ m) && Dat.cms m l
  | .tup l => Dat.cms m l
  | _ => true
def Dat.cms (m : Nat) : List Dat → Bool
  | [] => true
  | d :: t => Dat.cm m d && Dat.cms m t
end
theorem Rp.butL {H H' : Hp} {p : Addr} {zs : List V} {m : Nat} (hp : H p = some (.lst zs)) (hz : zs.length = m) (b : But p H H') {v : V} {d : Dat} (h : Rp H v d) : d.cm m = true → Rp H' v d := by
  refine Rp.rec (motive_1 := fun v d _ => d.cm m = true → Rp H' v d) (motive_2 := fun xs l _ => Dat.cms m l = true → Paired (Rp H') xs l) (fun _ => .non) (fun x _ => .bl x) (fun x _ => .int x) (fun x _ => .str x) ?_ ?_ ?_ (fun _ => .nil) ?_ h
  · intro a e _
    exact .dic (b _ _ (fun z => by rw [z, hp] at e; cases e) e)
  · intro a xs l e hl ih hc
    rw [Dat.cm] at hc
    have hc := Bool.and_eq_true_iff.mp hc
    refine .lst (b _ _ (fun z => ?_) e) (ih hc.2)
    rw [z, hp] at e
    cases e
    have := Paired.len hl
    exact of_decide_eq_true hc.1 (this.symm.trans hz)
  · intro a xs l e _ ih hc
    rw [Dat.cm] at hc
    exact .tup (b _ _ (fun z => by rw [z, hp] at e; cases e) e) (ih hc)
  · intro x y xs ys _ _ h1 h2 hc
    rw [Dat.cms] at hc
    have hc := Bool.and_eq_true_iff.mp hc
    exact .cons (h1 hc.1) (h2 hc.2)
theorem Rp.bag {H H' : Hp} {p cl : Addr} {n : Nat} (z : Bag H p cl n) (b : But p H H') {v : V} {d : Dat} (h : Rp H v d) (c : d.cm 5 = true) : Rp H' v d := by
  obtain ⟨q, hp, _⟩ := z
  exact h.butL hp rfl b c
theorem cms_mem {m : Nat} : ∀ {l : List Dat}, Dat.cms m l = true → ∀ d ∈ l, d.cm m = true
  | d :: t, h, x, hx => by
    rw [Dat.cms] at h
    have h := Bool.and_eq_true_iff.mp h
    rcases List.mem_cons.mp hx with e | e
    · rw [e]
      exact h.1
    · exact cms_mem h.2 x e
/-! ### the calls -/
def entC (k : Int) (w : Str) (d : Dat) : Dat := .tup [.int k, d, .str w]
def Dat.fitB : Dat → Bool
  | .str z => decide (z.length ≤ 4000)
  | _ => true
theorem fit_of {d : Dat} (h : d.fitB = true) : d.fit := by
  cases d with
  | str z => exact (show z.length ≤ 4000 from of_decide_eq_true h)
  | _ => exact True.intro
def Dat.fit2B (d : Dat) : Bool := match d.two with
  | some (x, _) => x.fitB
  | none => true
theorem fit2_of {d : Dat} (h : d.fit2B = true) : d.fit2 := fun x y e => by
  unfold Dat.fit2B at h
  rw [e] at h
  exact fit_of h
def Dat.fitsB (d : Dat) : Bool := match d.parts with
  | some l => decide (l.length ≤ 100000) && l.all Dat.fit2B
  | none => true
theorem fits_of {d : Dat} (h : d.fitsB = true) : d.fits := fun l e => by
  unfold Dat.fitsB at h
  rw [e] at h
  have h := Bool.and_eq_true_iff.mp h
  exact ⟨of_decide_eq_true h.1, fun x hx => fit2_of (List.all_eq_true.mp h.2 x hx)⟩
def Dat.stB (d : Dat) : Bool := match d.stt with
  | some r => decide (r.2 ≤ 1000000000000000000000000000000000000000)
  | none => true
def chkC : Dat → Bool
  | .tup [.int k, d, .str w] => decide (k = 0 ∨ k = 1 ∨ k = 2) && (decide (outN k d = w) && (d.fitsB && (d.fit2B && d.stB)))
  | _ => false
theorem chk_of {c : Dat} (h : chkC c = true) : ∃ k d w, c = entC k w d ∧ (k = 0 ∨ k = 1 ∨ k = 2) ∧ outN k d = w ∧ d.fits ∧ d.fit2 ∧ ∀ r, d.stt = some r → r.2 ≤ 1000000000000000000000000000000000000000 := by
  unfold chkC at h
  split at h
  · rename_i k d w
    have h := Bool.and_eq_true_iff.mp h
    have h2 := Bool.and_eq_true_iff.mp h.2
    have h3 := Bool.and_eq_true_iff.mp h2.2
    have h4 := Bool.and_eq_true_iff.mp h3.2
    refine ⟨k, d, w, rfl, of_decide_eq_true h.1, of_decide_eq_true h2.1, fits_of h3.1, fit2_of h4.1, fun r e => ?_⟩
    have h5 := h4.2
    unfold Dat.stB at h5
    rw [e] at h5
    exact of_decide_eq_true h5
  · cases h
def callsA : List Dat := noSeqs.map (entC 0 "InvalidSequence") ++ noStates.map (entC 1 "InvalidState") ++ noRecs.map (entC 2 "InvalidRecord")
def callsB : List Dat := [entC 0 "fine" (.lst [.tup [.str "a", .int ((10 : Int) ^ ((30 : Int).toNat))]]), entC 0 "fine" (.tup []), entC 0 "fine" (.tup [.lst [.str "a", .int 1], .tup [.str "b", .int 2]])]
def callsC : List Dat := [entC 1 "fine" .non, entC 1 "fine" (.lst [.str "a", .int ((10 : Int) ^ ((39 : Int).toNat))]), entC 2 "fine" (.lst ((List.replicate (400 : Int).toNat [.tup [.str "a", .str "waits"]]).flatten))]
def callsD : List Dat := [entC 2 "fine" (.tup [.lst [.non, .str "leaves"]])]
def callsZ : List Dat := callsA ++ callsB ++ callsC ++ callsD
theorem calls_chk : ∀ c ∈ callsZ, chkC c = true := by decide +kernel
theorem calls_c5 : Dat.cms 5 callsZ = true := by decide +kernel
theorem calls_len : (callsA ++ callsB ++ callsC).length = 65 := by decide +kernel
theorem calls_cl : Dat.cms 65 callsZ = true := by decide +kernel
theorem wrong_c5 : Dat.cms 5 [.lst noSeqs, .lst noStates, .lst noRecs] = true := by decide +kernel
end UP

set_option Elab.async false
set_option linter.all false
set_option maxRecDepth 100000
set_option maxHeartbeats 4000000
set_option pp.maxSteps 900
namespace UP
open PySem PySem.Spec PyProof.Rows L2
theorem room70 {A : Around} {k : Nat} (hr : Room k A) : A.units + 70 < cLine := by
  have := hr.un
  omega
structure Nis (w n : Nat) (d : PyData) : Prop where
  dep : d.depth ≤ n
  sho : d.showable = true
  lea : d.leavesShort 100 = true
  wei : d.weight ≤ w
def nisB (w n : Nat) (d : PyData) : Bool := decide (d.depth ≤ n) && (d.showable && (d.leavesShort 100 && decide (d.weight ≤ w)))
theorem nis_of {w n : Nat} {d : PyData} (h : nisB w n d = true) : Nis w n d := by
  unfold nisB at h
  rw [Bool.and_eq_true, Bool.and_eq_true, Bool.and_eq_true] at h
  exact ⟨of_decide_eq_true h.1, h.2.1, h.2.2.1, of_decide_eq_true h.2.2.2⟩
theorem Nis.fits {w n : Nat} {d : PyData} (h : Nis w n d) (hw : w ≤ 150000) (hn : n ≤ 64) : d.showable = true ∧ d.depth ≤ 64 ∧ d.shown.length ≤ sizeLine := by
  refine ⟨h.sho, Nat.le_trans h.dep hn, ?_⟩
  have h1 := PyData.shown_le 100 (by decide) d h.lea
  have h2 := h.wei
  have h3 : d.shown.length ≤ 16000000 := by omega
  exact Nat.le_trans h3 (by decide)
theorem Nis.mono {w w' n n' : Nat} {d : PyData} (h : Nis w n d) (h1 : w ≤ w') (h2 : n ≤ n') : Nis w' n' d := ⟨Nat.le_trans h.dep h2, h.sho, h.lea, Nat.le_trans h.wei h1⟩
def wrongD : Dat := .lst [.lst noSeqs, .lst noStates, .lst noRecs]
theorem wrong_fits : wrongD.py.showable = true ∧ wrongD.py.depth ≤ 64 ∧ wrongD.py.shown.length ≤ sizeLine := (nis_of (w := 100000) (n := 8) (by decide +kernel)).fits (by decide) (by decide)
def wrd : List Str := ["InvalidSequence", "InvalidState", "InvalidRecord"]
def EntV (Hb H : Hp) (v : V) (c : Dat) : Prop := ∃ t u k d w, v = .ref t ∧ c = entC k w d ∧ H t = some (.tup [.int k, u, .str w]) ∧ Rp Hb u d
theorem EntV.tk {Hb H H' : Hp} (k : ∀ b xs, H b = some (.tup xs) → H' b = some (.tup xs)) {v : V} {c : Dat} (h : EntV Hb H v c) : EntV Hb H' v c := by
  obtain ⟨t, u, n, d, w, e, ec, ht, r⟩ := h
  exact ⟨t, u, n, d, w, e, ec, k _ _ ht, r⟩
theorem EntV.rp {Hb H : Hp} (s : Same Hb H) {v : V} {c : Dat} (h : EntV Hb H v c) : Rp H v c := by
  obtain ⟨t, u, n, d, w, rfl, rfl, ht, r⟩ := h
  exact .tup ht (.cons (.int _) (.cons (r.same s) (.cons (.str _) .nil)))
theorem tk_lst {H : Hp} {p : Addr} {xs ys : List V} (h : H p = some (.lst xs)) : ∀ b zs, H b = some (.tup zs) → (upd H p (.lst ys)) b = some (.tup zs) := fun b zs e => by
  rw [upd_ne (fun z => by rw [z, h] at e; cases e)]
  exact e
theorem rps_but {H H' : Hp} {p : Addr} {zs : List V} {m : Nat} (hp : H p = some (.lst zs)) (hz : zs.length = m) (b : But p H H') : ∀ {xs : List V} {l : List Dat}, Paired (Rp H) xs l → Dat.cms m l = true → Paired (Rp H') xs l
  | _, _, .nil, _ => .nil
  | _, _, .cons h t, c => by
    rw [Dat.cms] at c
    have c := Bool.and_eq_true_iff.mp c
    exact .cons (h.butL hp hz b c.1) (rps_but hp hz b t c.2)
theorem paired_mem {α β : Type} {F : α → β → Prop} : ∀ {xs : List α} {l : List β}, Paired F xs l → ∀ {x : α}, x ∈ xs → ∃ d, d ∈ l ∧ F x d
  | _, _, .cons h t, x, hx => by
    rcases List.mem_cons.mp hx with e | e
    · rw [e]
      exact ⟨_, List.mem_cons_self .., h⟩
    · obtain ⟨d, hd, hf⟩ := paired_mem t e
      exact ⟨d, List.mem_cons_of_mem _ hd, hf⟩
def menu : Nat → List Dat
  | 0 => noSeqs
  | 1 => noStates
  | _ => noRecs
def callsP : Nat → List Dat
  | 0 => []
  | n + 1 => callsP n ++ (menu n).map (entC n (wrd.getD n ""))
theorem callsP3 : callsP 3 = callsA := by
  show (([] ++ _) ++ _) ++ _ = _
  rw [List.nil_append]
  rfl
theorem menu_len : ∀ n, n < 3 → (callsP n).length + (menu n).length ≤ 100 := by decide +kernel
section
variable {X : Cx}
theorem pe_call0H {k : Nat} {x : Str} {sp : Sp} {p pos : Pos} (G : Has X.prog X.w X.K X.mg X.base k x [] sp) (hr : Room k X.A) (hg : Gl X x) (hdb : (x == ("__debug__" : Str)) = false := by decide) :
    PE X (.Call (.Name x p) [] [] pos) (tCall sp [] E0 tNil) := by
  obtain ⟨f, fd, g, kp, b, F⟩ := G
  exact pe_call0 F hr hg g kp b .nil pass0 hdb
end
section
variable {P : Program} {w : World} {K : PySem.W.Frag} {mg : Str → Option Value} {base : Heap}
/-! law: slots 0:script 1:bag 2:turn 3:wrong 4:kept 5:words 6:calls 7:door 8:one 9:value -/
abbrev s_law : Stmt := topS 55
theorem sc_law : FnScope ["script", "bag", "turn", "wrong", "kept", "words", "calls", "door", "one", "value"] ["script"] (defScope s_law) := ⟨rfl, rfl, rfl, by decide +kernel, rfl, by decide +kernel, by decide +kernel⟩
def sp_law (K : PySem.W.Frag) : Sp := fun vs H Q _ => ∃ (a : Addr) (ns : List Int), vs = [.ref a] ∧ SqL K H a (ns.map V.int) ∧ ns.length ≤ 63 ∧ ∀ H', Q (.bl true) H'
theorem fn_law {f : Addr} {fd : FuncData} (F : Fun K "law" "law" s_law f fd) (T : Tx mg) (G_law_bag : Has P w K mg base 1 "_law_bag" ["script"] (sp_law_bag K)) (G_law_no_sequences : Has P w K mg base 1 "_law_no_sequences" [] sp_law_no_sequences) (G_law_no_states : Has P w K mg base 1 "_law_no_states" [] sp_law_no_states) (G_law_no_records : Has P w K mg base 1 "_law_no_records" [] sp_law_no_records)
    (G_law_shuffled : Has P w K mg base 3 "_law_shuffled" ["bag", "items"] sp_law_shuffled) (G_law_outcome : Has P w K mg base 7 "_law_outcome" ["door", "value"] sp_law_outcome) :
    FnC P w K mg base f fd ["script"] (sp_law K) := by
  refine fnC_of F sc_law (fun vs H Q E h => ?_) (fun cdv outer s H vs Q E hr h => ?_)
  · obtain ⟨_, _, rfl, _⟩ := h
    rfl
  · obtain ⟨a, ns, rfl, hS, l63, q⟩ := h
    refine ⟨_, (pss_cons (ps_set (i := 1) sc_law.nd rfl (by first | exact Or.inl rfl | exact Or.inr rfl) (pe_callH G_law_bag (hr.mono (by omega)) (by rfl) (pa_cons (pv 0) pa_nil)))
    (pss_cons (ps_for PassesOwn.never rfl (pi_range1 (by rfl) T.n_range (pa_cons (pe_op op_add pe_int (pe_callB (call_min2 rfl) (by rfl) T.n_min (by decide +kernel) (pa_cons pe_int (pa_cons (pe_callB call_len_seq (by rfl) T.n_len (by decide +kernel) (pa_cons (pv 0) pa_nil)) pa_nil)))) pa_nil)) (pg_name (i := 2) sc_law.nd rfl (by first | exact Or.inl rfl | exact Or.inr rfl))
      (pss_cons (ps_set (i := 3) sc_law.nd rfl (by first | exact Or.inl rfl | exact Or.inr rfl) (pe_lst (pa_cons (pe_call0H G_law_no_sequences (hr.mono (by omega)) (by rfl)) (pa_cons (pe_call0H G_law_no_states (hr.mono (by omega)) (by rfl)) (pa_cons (pe_call0H G_law_no_records (hr.mono (by omega)) (by rfl)) pa_nil)))))
    (pss_cons (ps_set (i := 4) sc_law.nd rfl (by first | exact Or.inl rfl | exact Or.inr rfl) (pe_callB (call_reprR (by rfl) (room70 hr)) (by rfl) T.n_repr (by decide +kernel) (pa_cons (pv 3) pa_nil)))
    (pss_cons (ps_set (i := 5) sc_law.nd rfl (by first | exact Or.inl rfl | exact Or.inr rfl) (pe_lst (pa_cons pe_str (pa_cons pe_str (pa_cons pe_str pa_nil)))))
    (pss_cons (ps_set (i := 6) sc_law.nd rfl (by first | exact Or.inl rfl | exact Or.inr rfl) (pe_lst pa_nil))
    (pss_cons (ps_for PassesOwn.never rfl (pi_range1 (by rfl) T.n_range (pa_cons pe_int pa_nil)) (pg_name (i := 7) sc_law.nd rfl (by first | exact Or.inl rfl | exact Or.inr rfl))
      (pss_one (ps_expr (pe_bm PySem.F.plainAttrs_list PySem.F.slot_list_extend PySem.F.type_list_extend mt_extend (pv 6) (pa_cons (pe_lc (own := [("value", 9)]) rfl sc_law.nd (pi_list (pe_ix ix_list (pv 3) (pv 7) (fun _ _ => rfl))) (blkOk_by (N := ["script", "bag", "turn", "wrong", "kept", "words", "calls", "door", "one", "value"]) (sc := defScope s_law) (by decide +kernel)) (fun _ _ _ _ _ => (pg_name (i := 9) sc_law.nd rfl (by first | exact Or.inl rfl | exact Or.inr rfl))) (fun _ _ _ _ _ => pts_nil) (fun _ _ _ _ _ => (pe_tup (pa_cons (pv 7) (pa_cons (pv 9) (pa_cons (pe_ix (ix_listK (K := K) rfl) (pv 5) (pv 7) (fun _ _ => rfl)) pa_nil)))))) pa_nil)))))
    (pss_cons (ps_set (i := 6) sc_law.nd rfl (by first | exact Or.inl rfl | exact Or.inr rfl) (pe_op op_cat (pv 6) (pe_lst (pa_cons (pe_tup (pa_cons pe_int (pa_cons (pe_lst (pa_cons (pe_tup (pa_cons pe_str (pa_cons (pe_op op_pow pe_int pe_int) pa_nil))) pa_nil)) (pa_cons pe_str pa_nil)))) (pa_cons (pe_tup (pa_cons pe_int (pa_cons (pe_tup pa_nil) (pa_cons pe_str pa_nil)))) (pa_cons (pe_tup (pa_cons pe_int (pa_cons (pe_tup (pa_cons (pe_lst (pa_cons pe_str (pa_cons pe_int pa_nil))) (pa_cons (pe_tup (pa_cons pe_str (pa_cons pe_int pa_nil))) pa_nil))) (pa_cons pe_str pa_nil)))) pa_nil))))))
    (pss_cons (ps_set (i := 6) sc_law.nd rfl (by first | exact Or.inl rfl | exact Or.inr rfl) (pe_op op_cat (pv 6) (pe_lst (pa_cons (pe_tup (pa_cons pe_int (pa_cons pe_non (pa_cons pe_str pa_nil)))) (pa_cons (pe_tup (pa_cons pe_int (pa_cons (pe_lst (pa_cons pe_str (pa_cons (pe_op op_pow pe_int pe_int) pa_nil))) (pa_cons pe_str pa_nil)))) (pa_cons (pe_tup (pa_cons pe_int (pa_cons (pe_op op_rep (pe_lst (pa_cons (pe_tup (pa_cons pe_str (pa_cons pe_str pa_nil))) pa_nil)) pe_int) (pa_cons pe_str pa_nil)))) pa_nil))))))
    (pss_cons (ps_expr (pe_bm PySem.F.plainAttrs_list PySem.F.slot_list_append PySem.F.type_list_append mt_append (pv 6) (pa_cons (pe_tup (pa_cons pe_int (pa_cons (pe_tup (pa_cons (pe_lst (pa_cons pe_non (pa_cons pe_str pa_nil))) pa_nil)) (pa_cons pe_str pa_nil)))) pa_nil)))
    (pss_cons (ps_if (pt_cmpR (op_neD hr.units) (pe_lc (own := [("one", 8)]) rfl sc_law.nd (pi_list (pe_callH G_law_shuffled (hr.mono (by omega)) (by rfl) (pa_cons (pv 1) (pa_cons (pv 6) pa_nil)))) (blkOk_by (N := ["script", "bag", "turn", "wrong", "kept", "words", "calls", "door", "one", "value"]) (sc := defScope s_law) (by decide +kernel)) (fun _ _ _ _ _ => (pg_name (i := 8) sc_law.nd rfl (by first | exact Or.inl rfl | exact Or.inr rfl))) (fun _ _ _ _ _ => pts_one (pt_cmpR op_ne (pe_callH G_law_outcome (hr.mono (by omega)) (by rfl) (pa_cons (pe_ix (ix_tupK (K := K) rfl) (pv 8) pe_int (fun _ _ => rfl)) (pa_cons (pe_ix (ix_tupK (K := K) rfl) (pv 8) pe_int (fun _ _ => rfl)) pa_nil))) (pe_ix (ix_tupK (K := K) rfl) (pv 8) pe_int (fun _ _ => rfl)) (nomark _))) (fun _ _ _ _ _ => (pv 8))) (pe_lst pa_nil) (nomark _)) (pss_one (ps_ret pe_bl)) pss_nil)
    (pss_one (ps_if (pt_cmpR op_ne (pe_callB (call_reprR (by rfl) (room70 hr)) (by rfl) T.n_repr (by decide +kernel) (pa_cons (pv 3) pa_nil)) (pv 4) (nomark _)) (pss_one (ps_ret pe_bl)) pss_nil))))))))))))
    (pss_one (ps_ret pe_bl)))), ?_⟩
    refine ⟨_, rfl, a, ns, rfl, hS, l63, fun H1 pb cl s1 npb ncl zb1 => ?_⟩
    refine ⟨_, rfl, a, _, rfl, .inl (s1.seq hS), _, _, rfl, _, _, rfl, rfl, _, rfl, ?_, ?_, for_range (lo := 0) (n := _) (fun i σ H' => ∃ y2 y3 y4 y5 y6 y7 y8 y9, σ = [some (.ref a), some (.ref pb), y2, y3, y4, y5, y6, y7, y8, y9] ∧ Bag H' pb cl (1000 * i))
      ⟨_, _, _, _, _, _, _, _, rfl, zb1⟩ (fun i σ H2 hi hP => ?_) (fun σ H2 hP => ?_)⟩
    · rw [List.length_map]
      split <;> omega
    · rw [List.length_map]
      split <;> omega
    · obtain ⟨y2, y3, y4, y5, y6, y7, y8, y9, rfl, z2⟩ := hP
      have hi : i ≤ 100 := by
        have hi : i < _ := hi
        rw [List.length_map] at hi
        split at hi <;> omega
      refine ⟨rfl, fun H3 v3 s3 r3 => ⟨rfl, fun H4 v4 s4 r4 => ⟨rfl, fun H5 v5 s5 r5 => ⟨(by show 3 ≤ sizeLine; decide), fun wl nwl => ?_⟩⟩⟩⟩
      have s6 := same_upd (o := .lst [v3, v4, v5]) nwl
      have hw : (upd H5 wl (.lst [v3, v4, v5])) wl = some (.lst [v3, v4, v5]) := upd_same
      have rw0 : Rp (upd H5 wl (.lst [v3, v4, v5])) (.ref wl) wrongD := .lst hw (.cons ((r3.same (s4.trans s5)).same s6) (.cons ((r4.same s5).same s6) (.cons (r5.same s6) .nil)))
      have z6 := (((z2.same s3).same s4).same s5).same s6
      generalize upd H5 wl (.lst [v3, v4, v5]) = H6 at *
      obtain ⟨w1, w2, w3⟩ := wrong_fits
      refine ⟨_, rfl, wl, wrongD, rfl, rw0, w1, w2, w3, ?_⟩
      have rws : ∀ j : Nat, j < 3 → ∃ m xs, atI [v3, v4, v5] (j : Int) = some (.ref m) ∧ H6 m = some (.lst xs) ∧ Paired (Rp H6) xs (menu j) ∧ atI [V.str "InvalidSequence", .str "InvalidState", .str "InvalidRecord"] (j : Int) = some (.str (wrd.getD j "")) := fun j hj => by
        have get : ∀ {v : V} {l : List Dat}, Rp H6 v (.lst l) → ∃ m xs, v = .ref m ∧ H6 m = some (.lst xs) ∧ Paired (Rp H6) xs l := fun {v l} r => by
          cases r with
          | lst e p => exact ⟨_, _, rfl, e, p⟩
        cases rw0 with
        | lst e p =>
          rw [hw] at e
          cases e
          cases p with
          | cons p0 p =>
            cases p with
            | cons p1 p =>
              cases p with
              | cons p2 p =>
                rcases (show j = 0 ∨ j = 1 ∨ j = 2 by omega) with e | e | e
                · subst e
                  obtain ⟨m, xs, rfl, h1, h2⟩ := get p0
                  exact ⟨m, xs, rfl, h1, h2, rfl⟩
                · subst e
                  obtain ⟨m, xs, rfl, h1, h2⟩ := get p1
                  exact ⟨m, xs, rfl, h1, h2, rfl⟩
                · subst e
                  obtain ⟨m, xs, rfl, h1, h2⟩ := get p2
                  exact ⟨m, xs, rfl, h1, h2, rfl⟩
      refine ⟨(by show 3 ≤ sizeLine; decide), fun ww nww => ⟨Nat.zero_le _, fun cw ncw => ?_⟩⟩
      have s7 := (same_upd (o := .lst [.str "InvalidSequence", .str "InvalidState", .str "InvalidRecord"]) nww).trans (same_upd (o := .lst []) ncw)
      have hww : (upd (upd H6 ww (.lst [.str "InvalidSequence", .str "InvalidState", .str "InvalidRecord"])) cw (.lst [])) ww = some (.lst [.str "InvalidSequence", .str "InvalidState", .str "InvalidRecord"]) := same_upd ncw _ _ upd_same
      have hcw : (upd (upd H6 ww (.lst [.str "InvalidSequence", .str "InvalidState", .str "InvalidRecord"])) cw (.lst [])) cw = some (.lst []) := upd_same
      have ncw6 : H6 cw = none := (same_upd (o := .lst [.str "InvalidSequence", .str "InvalidState", .str "InvalidRecord"]) nww).free ncw
      have wcw : ww ≠ cw := ne_of_none upd_same ncw
      generalize upd (upd H6 ww (.lst [.str "InvalidSequence", .str "InvalidState", .str "InvalidRecord"])) cw (.lst []) = H7 at *
      refine ⟨3, rfl, by decide, by decide, for_range (lo := 0) (n := 3) (fun j σ H' => ∃ y7 y9 cs, σ = [some (.ref a), some (.ref pb), some (.int (0 + (i : Int))), some (.ref wl), some (.str wrongD.py.shown), some (.ref ww), some (.ref cw), y7, y8, y9] ∧ Same H6 H' ∧ H' ww = some (.lst [.str "InvalidSequence", .str "InvalidState", .str "InvalidRecord"]) ∧ H' cw = some (.lst cs) ∧ Paired (EntV H6 H') cs (callsP j)) ⟨_, _, [], rfl, s7, hww, hcw, .nil⟩ (fun j σ H8 hj hP => ?_) (fun σ H8 hP => ?_)⟩
      · obtain ⟨y7, y9, cs, rfl, s8, hw8, hc8, hcp⟩ := hP
        have hj : j < 3 := hj
        have lcs := Paired.len hcp
        have ml := menu_len j hj
        obtain ⟨m, xs, em, hm, hmp, ew⟩ := rws j hj
        have lm := Paired.len hmp
        rw [show (0 : Int) + (j : Int) = j by omega]
        refine ⟨_, rfl, .inl ⟨rfl, _, SqL.of hc8⟩, _, rfl, _, rfl, wl, _, (j : Int), _, rfl, rfl, .of (s8 _ _ hw), em, m, rfl, ⟨xs, .of (s8 _ _ hm)⟩, fun L nL => lc_list (K := K) (a := m) (xs := xs) (fun q H' => Same H8 H' ∧ ∃ ys, H' L = some (.lst ys) ∧ Paired (EntV H6 H') ys (((menu j).take q).map (entC j (wrd.getD j "")))) ⟨same_upd nL, [], upd_same, .nil⟩ (fun q H' _ hP => .of (hP.1 _ _ (s8 _ _ hm))) (fun q x H9 ex hP => ?_) (fun H9 hP => ?_)⟩
        · obtain ⟨s9, ys, hL, hyp⟩ := hP
          obtain ⟨d, ed, rd⟩ := Paired.at hmp ex
          have hq : q < xs.length := (List.getElem?_eq_some_iff.mp ex).1
          have ly := Paired.len hyp
          rw [List.length_map, List.length_take] at ly
          refine ⟨rfl, yesT ⟨_, rfl, _, rfl, _, rfl, _, rfl, ww, _, (j : Int), _, rfl, rfl, .of (s9 _ _ hw8), ew, (by show 3 ≤ sizeLine; decide), fun t nt => ⟨_, same_upd nt _ _ hL, small (by omega), same_grow nL (s9.trans (same_upd nt)), ys ++ [.ref t], upd_same, ?_⟩⟩⟩
          rw [take_snoc ed, List.map_append]
          have hL' := same_upd (o := .tup [.int (j : Int), x, .str (wrd.getD j "")]) nt _ _ hL
          refine Paired.app (Paired.imp (fun _ _ y => (y.tk fun b zs e => same_upd nt _ _ e).tk (tk_lst hL')) hyp) (.cons ⟨t, x, j, d, wrd.getD j "", rfl, rfl, tk_lst hL' _ _ upd_same, rd⟩ .nil)
        · obtain ⟨s9, ys, hL, hyp⟩ := hP
          rw [lm, List.take_length] at hyp
          have ly := Paired.len hyp
          rw [List.length_map] at ly
          have hc9 := s9 _ _ hc8
          refine ⟨cw, L, _, _, rfl, rfl, hc9, hL, smallE (by omega), _, _, cs ++ ys, rfl, fun b o e => ?_, ?_, upd_same, ?_⟩
          · rw [upd_ne (ne_of_none e ncw6)]
            exact s9 _ _ (s8 _ _ e)
          · rw [upd_ne wcw]
            exact s9 _ _ hw8
          · exact Paired.app (Paired.imp (fun _ _ y => (y.tk fun b zs e => s9 _ _ e).tk (tk_lst hc9)) hcp) (Paired.imp (fun _ _ y => y.tk (tk_lst hc9)) hyp)
      · obtain ⟨y7, y9, cs, rfl, s8, hw8, hc8, hcp⟩ := hP
        have hcp : Paired (EntV H6 H8) cs (callsP 3) := hcp
        rw [callsP3] at hcp
        have rc : Rp H8 (.ref cw) (.lst callsA) := .lst hc8 (Paired.imp (fun _ _ y => y.rp s8) hcp)
        have z8 := z6.same s8
        have rw8 := rw0.same s8
        clear hcp hc8 hw8 rws
        refine lit_set (d := .lst (callsA ++ callsB)) (lit_cat (lit_var rfl rc) (lit_lst (lits_cons (lit_tup (lits_cons lit_int (lits_cons (lit_lst (lits_cons (lit_tup (lits_cons lit_str (lits_cons (lit_val (v := .int ((10 : Int) ^ ((30 : Int).toNat))) (fun H Q q => ⟨_, _, rfl, rfl, ⟨by decide, by decide, by decide⟩, q⟩) (fun H => .int _)) lits_nil)) (Nat.le_of_ble_eq_true rfl)) lits_nil) (Nat.le_of_ble_eq_true rfl)) (lits_cons lit_str lits_nil))) (Nat.le_of_ble_eq_true rfl)) (lits_cons (lit_tup (lits_cons lit_int (lits_cons (lit_tup lits_nil (Nat.le_of_ble_eq_true rfl)) (lits_cons lit_str lits_nil))) (Nat.le_of_ble_eq_true rfl)) (lits_cons (lit_tup (lits_cons lit_int (lits_cons (lit_tup (lits_cons (lit_lst (lits_cons lit_str (lits_cons lit_int lits_nil)) (Nat.le_of_ble_eq_true rfl)) (lits_cons (lit_tup (lits_cons lit_str (lits_cons lit_int lits_nil)) (Nat.le_of_ble_eq_true rfl)) lits_nil)) (Nat.le_of_ble_eq_true rfl)) (lits_cons lit_str lits_nil))) (Nat.le_of_ble_eq_true rfl)) lits_nil))) (Nat.le_of_ble_eq_true rfl)) (by decide +kernel)) (fun H10 v10 s10 r10 => ?_)
        refine lit_set (d := .lst (callsA ++ callsB ++ callsC)) (lit_cat (lit_var rfl r10) (lit_lst (lits_cons (lit_tup (lits_cons lit_int (lits_cons lit_non (lits_cons lit_str lits_nil))) (Nat.le_of_ble_eq_true rfl)) (lits_cons (lit_tup (lits_cons lit_int (lits_cons (lit_lst (lits_cons lit_str (lits_cons (lit_val (v := .int ((10 : Int) ^ ((39 : Int).toNat))) (fun H Q q => ⟨_, _, rfl, rfl, ⟨by decide, by decide, by decide⟩, q⟩) (fun H => .int _)) lits_nil)) (Nat.le_of_ble_eq_true rfl)) (lits_cons lit_str lits_nil))) (Nat.le_of_ble_eq_true rfl)) (lits_cons (lit_tup (lits_cons lit_int (lits_cons (lit_rep (lit_lst (lits_cons (lit_tup (lits_cons lit_str (lits_cons lit_str lits_nil)) (Nat.le_of_ble_eq_true rfl)) lits_nil) (Nat.le_of_ble_eq_true rfl)) (by decide) (by decide) (Nat.le_of_ble_eq_true rfl)) (lits_cons lit_str lits_nil))) (Nat.le_of_ble_eq_true rfl)) lits_nil))) (Nat.le_of_ble_eq_true rfl)) (by decide +kernel)) (fun H11 v11 s11 r11 => ?_)
        obtain ⟨c3, zs, rfl, hz, hzp⟩ : ∃ c3 zs, v11 = .ref c3 ∧ H11 c3 = some (.lst zs) ∧ Paired (Rp H11) zs (callsA ++ callsB ++ callsC) := by
          cases r11 with
          | lst e p => exact ⟨_, _, rfl, e, p⟩
        have lz : zs.length = 65 := by rw [Paired.len hzp, calls_len]
        refine ⟨_, rfl, .inl ⟨rfl, _, SqL.of hz⟩, (lits_cons (lit_tup (lits_cons lit_int (lits_cons (lit_tup (lits_cons (lit_lst (lits_cons lit_non (lits_cons lit_str lits_nil)) (Nat.le_of_ble_eq_true rfl)) lits_nil) (Nat.le_of_ble_eq_true rfl)) (lits_cons lit_str lits_nil))) (Nat.le_of_ble_eq_true rfl)) lits_nil) H11 _ (Same.refl _) fun H12 vs s12 p12 => ?_⟩
        obtain ⟨v, rfl, rv⟩ : ∃ v, vs = [v] ∧ Rp H12 v (entC 2 "fine" (.tup [.lst [.non, .str "leaves"]])) := by
          cases p12 with
          | cons h t =>
            cases t
            exact ⟨_, rfl, h⟩
        have hz12 := s12 _ _ hz
        refine ⟨c3, zs, v, rfl, rfl, hz12, small (by omega), ?_⟩
        have b13 : But c3 H12 (upd H12 c3 (.lst (zs ++ [v]))) := but_upd
        have h13 : (upd H12 c3 (.lst (zs ++ [v]))) c3 = some (.lst (zs ++ [v])) := upd_same
        have p13 : Paired (Rp (upd H12 c3 (.lst (zs ++ [v])))) (zs ++ [v]) callsZ := rps_but hz12 lz b13 (Paired.app (rps_same s12 hzp) (.cons rv .nil)) calls_cl
        have z12 := ((z8.same s10).same s11).same s12
        have rw12 := ((rw8.same s10).same s11).same s12
        have rw13 := rw12.butL hz12 lz b13 (by decide +kernel)
        obtain ⟨qb, hb1, hb2, hb3, _⟩ := id z12
        have n1 : pb ≠ c3 := fun e => by
          rw [e, hz12] at hb1
          cases hb1
          cases lz
        have n2 : cl ≠ c3 := fun e => by
          rw [e, hz12] at hb2
          cases hb2
          rw [List.length_map] at lz
          omega
        have z13 := z12.keep (fun o e => b13 _ _ n1 e) (fun o e => b13 _ _ n2 e)
        generalize upd H12 c3 (.lst (zs ++ [v])) = H13 at *
        have lw : (zs ++ [v]).length = 66 := by rw [List.length_append, lz]; rfl
        have n3 : c3 ≠ pb := n1.symm
        refine ⟨_, rfl, _, rfl, pb, cl, c3, _, _, rfl, z13, by omega, h13, n3, by omega, fun H14 L ys b14 z14 nL hL ly my => ?_⟩
        refine ⟨L, rfl, ⟨_, .of hL⟩, fun M nM => lc_list (K := K) (a := L) (xs := ys) (fun q H' => Same H14 H' ∧ H' M = some (.lst [])) ⟨same_upd nM, upd_same⟩ (fun q H' _ hP => .of (hP.1 _ _ hL)) (fun q x H15 ex hP => ?_) (fun H15 hP => ?_)⟩
        · obtain ⟨s15, hM⟩ := hP
          obtain ⟨d, hd, rd⟩ := paired_mem p13 (my x (List.mem_of_getElem? ex))
          obtain ⟨k, d0, w0, rfl, hk, ew, ft, ft2, bd⟩ := chk_of (calls_chk d hd)
          have rd := (rd.bag z13 b14 (cms_mem calls_c5 _ hd)).same s15
          obtain ⟨t, u, rfl, ht, ru⟩ : ∃ t u, x = .ref t ∧ H15 t = some (.tup [.int k, u, .str w0]) ∧ Rp H15 u d0 := by
            cases rd with
            | tup e p =>
              cases p with
              | cons p0 p =>
                cases p0
                cases p with
                | cons p1 p =>
                  cases p with
                  | cons p2 p =>
                    cases p2
                    cases p
                    exact ⟨_, _, rfl, e, p1⟩
          refine ⟨rfl, ?_⟩
          refine ⟨_, rfl, t, _, 0, _, rfl, rfl, .of ht, rfl, _, rfl, t, _, 1, _, rfl, rfl, .of ht, rfl, k, u, d0, rfl, ru, ft, ft2, bd, hk, fun H16 s16 => ?_⟩
          refine ⟨_, rfl, t, _, 2, _, rfl, rfl, .of (s16 _ _ ht), rfl, rfl, _, rfl, iteN (by rw [ew, decide_eq_true rfl]; rfl) ⟨s15.trans s16, s16 _ _ hM⟩⟩
        · obtain ⟨s15, hM⟩ := hP
          refine ⟨Nat.zero_le _, fun e ne => ?_⟩
          have se := same_upd (o := .lst []) ne
          refine ⟨.list [], .list [], .lst (.of (se _ _ hM)) .nil, .lst (.of upd_same) .nil, by decide, by decide, _, rfl, iteN (by decide) ?_⟩
          have rw15 := ((rw13.bag z13 b14 (by decide +kernel)).same s15).same se
          refine ⟨_, rfl, wl, wrongD, rfl, rw15, w1, w2, w3, _, rfl, rfl, _, rfl, iteN (by rw [decide_eq_true rfl]; rfl) ?_⟩
          exact ⟨_, _, _, _, _, _, _, _, rfl, ((z14.same s15).same se).mono (by omega)⟩
    · exact q _
end
end UP

set_option Elab.async false
set_option linter.all false
set_option maxRecDepth 100000
set_option maxHeartbeats 4000000
namespace UP
open PySem PySem.Spec PyProof.Rows L2
section
variable {K : PySem.W.Frag} {h : Heap} {mg : Str → Option Value}
theorem df_mk {x : Str} {st : Stmt} {f : Addr} {od an : Option Addr} {sl : Array (Option Value)} {oc kV dc pm cd ct : Value} (X : K.In h) (G : h.Ns mainGlobals mg) (a : PySem.W.nsIn K mainGlobals x = some (some (.ref f)))
    (l : K.lookup f = some ⟨oc, od, .func (PySem.W.fnOf x x (defArgs st) (defBody st) (defScope st) .none kV dc pm an cd ct), sl⟩) (c : PySem.W.codeIn K cd x = true) (k : PySem.W.keepIn K (.ref f) = true) : Df K mg x st :=
  ⟨f, _, PySem.W.mg_of X G a, fun_mk l c k⟩
theorem cst_mk {x : Str} {i : Int} {t : Tok} (X : K.In h) (G : h.Ns mainGlobals mg) (a : PySem.W.nsIn K mainGlobals x = some (some (.int i t))) : ∃ t, mg x = some (.int i t) := ⟨t, PySem.W.mg_of X G a⟩
end
/-! ### the classes -/
def CA (mg : Str → Option Value) (n : Str) : Addr := match mg n with
  | some (.ref C) => C
  | _ => 0
theorem ca_of {mg : Str → Option Value} {n : Str} {C : Addr} (h : mg n = some (.ref C)) : CA mg n = C := by
  unfold CA
  rw [h]
def P2 (K : PySem.W.Frag) (mg : Str → Option Value) (nm n : Str) (r : Bool) : Prop := ∃ D C, mg nm = some (.ref D) ∧ mg n = some (.ref C) ∧ PySem.W.kitOne K (.ref D) (.ref C) = some r
def P1 (K : PySem.W.Frag) (mg : Str → Option Value) (nm : Str) : Prop := ∃ D B, mg nm = some (.ref D) ∧ mg "PairError" = some (.ref B) ∧ Ex K mg nm D ∧ ExcC K D ∧ PySem.W.exmOne K (.ref D) (.ref B) = some true ∧ PySem.W.kitOne K (.ref D) (.ref B) = some true ∧ PySem.W.kitOne K (.ref D) (.type "ValueError") = some true
section
variable {K : PySem.W.Frag} {h : Heap} {mg : Str → Option Value}
theorem p2_mk {nm n : Str} {r : Bool} {D C : Addr} (X : K.In h) (G : h.Ns mainGlobals mg) (a : PySem.W.nsIn K mainGlobals nm = some (some (.ref D))) (b : PySem.W.nsIn K mainGlobals n = some (some (.ref C))) (k : PySem.W.kitOne K (.ref D) (.ref C) = some r) : P2 K mg nm n r := ⟨D, C, PySem.W.mg_of X G a, PySem.W.mg_of X G b, k⟩
theorem p1_mk {nm : Str} {D B : Addr} (X : K.In h) (G : h.Ns mainGlobals mg) (a : PySem.W.nsIn K mainGlobals nm = some (some (.ref D))) (b : PySem.W.nsIn K mainGlobals "PairError" = some (some (.ref B)))
    (x : PySem.W.excIn K D [.type "ValueError", .type "Exception", .type "BaseException", .type "object"] "ValueError.__new__" = true) (k : PySem.W.keepIn K (.ref D) = true) (bs : PySem.W.subIn K (.ref D) (.type "BaseException") = some true) (t : PySem.W.typeIn K (.ref D) = some (.type "type"))
    (e1 : PySem.W.findIn K (.ref D) "__getattribute__" = some (some (.builtin "BaseException.__getattribute__"))) (e2 : PySem.W.findIn K (.ref D) "__getattr__" = some none) (e3 : PySem.W.hasDictIn K D = true) (e4 : PySem.W.findIn K (.ref D) "__class__" = some (some (.builtin "object.__class__")))
    (e5 : PySem.W.specialIn K (.builtin "object.__class__") "__get__" = some (some (.builtin "getset_descriptor.__get__"))) (e6 : PySem.W.takesIn K (.builtin "object.__class__") = some true) (e7 : PySem.W.mroIn K D (.type "object") = some true)
    (m : PySem.W.exmOne K (.ref D) (.ref B) = some true) (k1 : PySem.W.kitOne K (.ref D) (.ref B) = some true) (k2 : PySem.W.kitOne K (.ref D) (.type "ValueError") = some true) : P1 K mg nm :=
  ⟨D, B, PySem.W.mg_of X G a, PySem.W.mg_of X G b, ⟨PySem.W.mg_of X G a, x, k, bs, t⟩, ⟨e1, e2, bs, e3, e4, e5, e6, e7⟩, m, k1, k2⟩
theorem clsF_of {nm : Str} (h : P1 K mg nm) (k : ∀ n, n ∈ allL → P2 K mg nm n (decide (n = nm))) : ClsH K (CA mg) nm ∧ Ex K mg nm (CA mg nm) := by
  obtain ⟨D, B, g, gb, ex, ec, m, k1, k2⟩ := h
  have eD := ca_of g
  have eB := ca_of gb
  refine ⟨⟨by rw [eD]; exact ec, by rw [eD, eB]; exact m, fun n hn => ?_, by rw [eD]; exact k2⟩, by rw [eD]; exact ex⟩
  obtain ⟨D', C, g', gc, kk⟩ := k n hn
  rw [g] at g'
  cases g'
  rw [eD, ca_of gc]
  exact kk
theorem cmg_of {nm : Str} (h : P1 K mg nm) (k : ∀ n, n ∈ allL → P2 K mg nm n (decide (n = nm))) : CmgH mg (CA mg) := by
  refine ⟨fun n hn => ?_⟩
  have hn : n ∈ allL ∨ n = "PairError" := by
    rcases List.mem_append.mp hn with z | z
    · exact .inl z
    · exact .inr (List.mem_singleton.mp z)
  rcases hn with z | z
  · obtain ⟨D, C, _, gc, _⟩ := k n z
    rw [ca_of gc]
    exact gc
  · obtain ⟨D, B, _, gb, _⟩ := h
    rw [z, ca_of gb]
    exact gb
end
/-- all that the top has written -/
def MrkF (K : PySem.W.Frag) (w : World) (mg : Str → Option Value) : Prop := ∃ aM, MrkT K w mg aM
theorem mrk_mk {K : PySem.W.Frag} {w : World} {h : Heap} {mg : Str → Option Value} {aM : Addr} {eM : Array DictEntry} {nM : Nat} {k1 k2 : Tok} (X : K.In h) (G : h.Ns mainGlobals mg) (a : PySem.W.nsIn K mainGlobals "MARKS" = some (some (.ref aM))) (l : K.lookup aM = some ⟨.type "dict", none, .dict eM nM, #[]⟩) (kl : PySem.W.KeysLit w.params eM.toList) (m1 : PySem.W.nsIn K aM "waits" = some (some (.str "+" k1))) (m2 : PySem.W.nsIn K aM "leaves" = some (some (.str "-" k2))) : MrkF K w mg :=
  ⟨aM, PySem.W.mg_of X G a, ⟨eM, nM, _, l, kl, m1, k1, rfl⟩, ⟨eM, nM, _, l, kl, m2, k2, rfl⟩⟩
structure Top (K : PySem.W.Frag) (w : World) (mg : Str → Option Value) : Prop where
  T : Tx mg
  p_InvalidSequence : P1 K mg "InvalidSequence"
  k_InvalidSequence_InvalidSequence : P2 K mg "InvalidSequence" "InvalidSequence" true
  k_InvalidSequence_InvalidState : P2 K mg "InvalidSequence" "InvalidState" false
  k_InvalidSequence_InvalidRecord : P2 K mg "InvalidSequence" "InvalidRecord" false
  k_InvalidSequence_Contradiction : P2 K mg "InvalidSequence" "Contradiction" false
  k_InvalidSequence_Impossible : P2 K mg "InvalidSequence" "Impossible" false
  k_InvalidSequence_InvalidCommand : P2 K mg "InvalidSequence" "InvalidCommand" false
  k_InvalidSequence_InvalidCounts : P2 K mg "InvalidSequence" "InvalidCounts" false
  k_InvalidSequence_InvalidEffects : P2 K mg "InvalidSequence" "InvalidEffects" false
  k_InvalidSequence_InvalidItems : P2 K mg "InvalidSequence" "InvalidItems" false
  k_InvalidSequence_InvalidKind : P2 K mg "InvalidSequence" "InvalidKind" false
  k_InvalidSequence_InvalidKinds : P2 K mg "InvalidSequence" "InvalidKinds" false
  k_InvalidSequence_InvalidNumber : P2 K mg "InvalidSequence" "InvalidNumber" false
  k_InvalidSequence_InvalidPosition : P2 K mg "InvalidSequence" "InvalidPosition" false
  k_InvalidSequence_InvalidText : P2 K mg "InvalidSequence" "InvalidText" false
  k_InvalidSequence_NothingToUndo : P2 K mg "InvalidSequence" "NothingToUndo" false
  k_InvalidSequence_SameEffect : P2 K mg "InvalidSequence" "SameEffect" false
  k_InvalidSequence_TooLong : P2 K mg "InvalidSequence" "TooLong" false
  k_InvalidSequence_TooMany : P2 K mg "InvalidSequence" "TooMany" false
  p_InvalidState : P1 K mg "InvalidState"
  k_InvalidState_InvalidSequence : P2 K mg "InvalidState" "InvalidSequence" false
  k_InvalidState_InvalidState : P2 K mg "InvalidState" "InvalidState" true
  k_InvalidState_InvalidRecord : P2 K mg "InvalidState" "InvalidRecord" false
  k_InvalidState_Contradiction : P2 K mg "InvalidState" "Contradiction" false
  k_InvalidState_Impossible : P2 K mg "InvalidState" "Impossible" false
  k_InvalidState_InvalidCommand : P2 K mg "InvalidState" "InvalidCommand" false
  k_InvalidState_InvalidCounts : P2 K mg "InvalidState" "InvalidCounts" false
  k_InvalidState_InvalidEffects : P2 K mg "InvalidState" "InvalidEffects" false
  k_InvalidState_InvalidItems : P2 K mg "InvalidState" "InvalidItems" false
  k_InvalidState_InvalidKind : P2 K mg "InvalidState" "InvalidKind" false
  k_InvalidState_InvalidKinds : P2 K mg "InvalidState" "InvalidKinds" false
  k_InvalidState_InvalidNumber : P2 K mg "InvalidState" "InvalidNumber" false
  k_InvalidState_InvalidPosition : P2 K mg "InvalidState" "InvalidPosition" false
  k_InvalidState_InvalidText : P2 K mg "InvalidState" "InvalidText" false
  k_InvalidState_NothingToUndo : P2 K mg "InvalidState" "NothingToUndo" false
  k_InvalidState_SameEffect : P2 K mg "InvalidState" "SameEffect" false
  k_InvalidState_TooLong : P2 K mg "InvalidState" "TooLong" false
  k_InvalidState_TooMany : P2 K mg "InvalidState" "TooMany" false
  p_InvalidRecord : P1 K mg "InvalidRecord"
  k_InvalidRecord_InvalidSequence : P2 K mg "InvalidRecord" "InvalidSequence" false
  k_InvalidRecord_InvalidState : P2 K mg "InvalidRecord" "InvalidState" false
  k_InvalidRecord_InvalidRecord : P2 K mg "InvalidRecord" "InvalidRecord" true
  k_InvalidRecord_Contradiction : P2 K mg "InvalidRecord" "Contradiction" false
  k_InvalidRecord_Impossible : P2 K mg "InvalidRecord" "Impossible" false
  k_InvalidRecord_InvalidCommand : P2 K mg "InvalidRecord" "InvalidCommand" false
  k_InvalidRecord_InvalidCounts : P2 K mg "InvalidRecord" "InvalidCounts" false
  k_InvalidRecord_InvalidEffects : P2 K mg "InvalidRecord" "InvalidEffects" false
  k_InvalidRecord_InvalidItems : P2 K mg "InvalidRecord" "InvalidItems" false
  k_InvalidRecord_InvalidKind : P2 K mg "InvalidRecord" "InvalidKind" false
  k_InvalidRecord_InvalidKinds : P2 K mg "InvalidRecord" "InvalidKinds" false
  k_InvalidRecord_InvalidNumber : P2 K mg "InvalidRecord" "InvalidNumber" false
  k_InvalidRecord_InvalidPosition : P2 K mg "InvalidRecord" "InvalidPosition" false
  k_InvalidRecord_InvalidText : P2 K mg "InvalidRecord" "InvalidText" false
  k_InvalidRecord_NothingToUndo : P2 K mg "InvalidRecord" "NothingToUndo" false
  k_InvalidRecord_SameEffect : P2 K mg "InvalidRecord" "SameEffect" false
  k_InvalidRecord_TooLong : P2 K mg "InvalidRecord" "TooLong" false
  k_InvalidRecord_TooMany : P2 K mg "InvalidRecord" "TooMany" false
  d_is_whole : Df K mg "is_whole" s_is_whole
  d_is_within : Df K mg "is_within" s_is_within
  d_is_listed : Df K mg "is_listed" s_is_listed
  d_is_couple : Df K mg "is_couple" s_is_couple
  d_is_kind : Df K mg "is_kind" s_is_kind
  d_is_run : Df K mg "is_run" s_is_run
  d_is_sequence : Df K mg "is_sequence" s_is_sequence
  d_is_state : Df K mg "is_state" s_is_state
  d_checked_runs : Df K mg "checked_runs" s_checked_runs
  d_checked_state : Df K mg "checked_state" s_checked_state
  d_is_entry : Df K mg "is_entry" s_is_entry
  d_is_record : Df K mg "is_record" s_is_record
  d_run_word : Df K mg "run_word" s_run_word
  d_format_sequence : Df K mg "format_sequence" s_format_sequence
  d_format_state : Df K mg "format_state" s_format_state
  d_format_record : Df K mg "format_record" s_format_record
  d_law_bag : Df K mg "_law_bag" s_law_bag
  d_law_stir : Df K mg "_law_stir" s_law_stir
  d_law_draw : Df K mg "_law_draw" s_law_draw
  d_law_shuffled : Df K mg "_law_shuffled" s_law_shuffled
  d_law_class : Df K mg "_law_class" s_law_class
  d_law_outcome : Df K mg "_law_outcome" s_law_outcome
  d_law_no_sequences : Df K mg "_law_no_sequences" s_law_no_sequences
  d_law_no_states : Df K mg "_law_no_states" s_law_no_states
  d_law_no_records : Df K mg "_law_no_records" s_law_no_records
  mrk : MrkF K w mg
theorem Top.law {P : Program} {w : World} {K : PySem.W.Frag} {mg : Str → Option Value} (Y : Top K w mg) {f : Addr} {fd : FuncData} (F : Fun K "law" "law" s_law f fd) (base : Heap) : FnC P w K mg base f fd ["script"] (sp_law K) := by
  have T := Y.T
  obtain ⟨aM, TD⟩ := Y.mrk
  have q_InvalidSequence : ∀ n, n ∈ allL → P2 K mg "InvalidSequence" n (decide (n = "InvalidSequence")) := by
    intro n hn
    simp only [allL, mineL, odd1, odd2, odd3, odd4, List.cons_append, List.nil_append, List.mem_cons, List.not_mem_nil, or_false] at hn
    rcases hn with rfl | rfl | rfl | rfl | rfl | rfl | rfl | rfl | rfl | rfl | rfl | rfl | rfl | rfl | rfl | rfl | rfl | rfl
    · exact Y.k_InvalidSequence_InvalidSequence
    · exact Y.k_InvalidSequence_InvalidState
    · exact Y.k_InvalidSequence_InvalidRecord
    · exact Y.k_InvalidSequence_Contradiction
    · exact Y.k_InvalidSequence_Impossible
    · exact Y.k_InvalidSequence_InvalidCommand
    · exact Y.k_InvalidSequence_InvalidCounts
    · exact Y.k_InvalidSequence_InvalidEffects
    · exact Y.k_InvalidSequence_InvalidItems
    · exact Y.k_InvalidSequence_InvalidKind
    · exact Y.k_InvalidSequence_InvalidKinds
    · exact Y.k_InvalidSequence_InvalidNumber
    · exact Y.k_InvalidSequence_InvalidPosition
    · exact Y.k_InvalidSequence_InvalidText
    · exact Y.k_InvalidSequence_NothingToUndo
    · exact Y.k_InvalidSequence_SameEffect
    · exact Y.k_InvalidSequence_TooLong
    · exact Y.k_InvalidSequence_TooMany
  obtain ⟨F_InvalidSequence, X_InvalidSequence⟩ := clsF_of Y.p_InvalidSequence q_InvalidSequence
  have q_InvalidState : ∀ n, n ∈ allL → P2 K mg "InvalidState" n (decide (n = "InvalidState")) := by
    intro n hn
    simp only [allL, mineL, odd1, odd2, odd3, odd4, List.cons_append, List.nil_append, List.mem_cons, List.not_mem_nil, or_false] at hn
    rcases hn with rfl | rfl | rfl | rfl | rfl | rfl | rfl | rfl | rfl | rfl | rfl | rfl | rfl | rfl | rfl | rfl | rfl | rfl
    · exact Y.k_InvalidState_InvalidSequence
    · exact Y.k_InvalidState_InvalidState
    · exact Y.k_InvalidState_InvalidRecord
    · exact Y.k_InvalidState_Contradiction
    · exact Y.k_InvalidState_Impossible
    · exact Y.k_InvalidState_InvalidCommand
    · exact Y.k_InvalidState_InvalidCounts
    · exact Y.k_InvalidState_InvalidEffects
    · exact Y.k_InvalidState_InvalidItems
    · exact Y.k_InvalidState_InvalidKind
    · exact Y.k_InvalidState_InvalidKinds
    · exact Y.k_InvalidState_InvalidNumber
    · exact Y.k_InvalidState_InvalidPosition
    · exact Y.k_InvalidState_InvalidText
    · exact Y.k_InvalidState_NothingToUndo
    · exact Y.k_InvalidState_SameEffect
    · exact Y.k_InvalidState_TooLong
    · exact Y.k_InvalidState_TooMany
  obtain ⟨F_InvalidState, X_InvalidState⟩ := clsF_of Y.p_InvalidState q_InvalidState
  have q_InvalidRecord : ∀ n, n ∈ allL → P2 K mg "InvalidRecord" n (decide (n = "InvalidRecord")) := by
    intro n hn
    simp only [allL, mineL, odd1, odd2, odd3, odd4, List.cons_append, List.nil_append, List.mem_cons, List.not_mem_nil, or_false] at hn
    rcases hn with rfl | rfl | rfl | rfl | rfl | rfl | rfl | rfl | rfl | rfl | rfl | rfl | rfl | rfl | rfl | rfl | rfl | rfl
    · exact Y.k_InvalidRecord_InvalidSequence
    · exact Y.k_InvalidRecord_InvalidState
    · exact Y.k_InvalidRecord_InvalidRecord
    · exact Y.k_InvalidRecord_Contradiction
    · exact Y.k_InvalidRecord_Impossible
    · exact Y.k_InvalidRecord_InvalidCommand
    · exact Y.k_InvalidRecord_InvalidCounts
    · exact Y.k_InvalidRecord_InvalidEffects
    · exact Y.k_InvalidRecord_InvalidItems
    · exact Y.k_InvalidRecord_InvalidKind
    · exact Y.k_InvalidRecord_InvalidKinds
    · exact Y.k_InvalidRecord_InvalidNumber
    · exact Y.k_InvalidRecord_InvalidPosition
    · exact Y.k_InvalidRecord_InvalidText
    · exact Y.k_InvalidRecord_NothingToUndo
    · exact Y.k_InvalidRecord_SameEffect
    · exact Y.k_InvalidRecord_TooLong
    · exact Y.k_InvalidRecord_TooMany
  obtain ⟨F_InvalidRecord, X_InvalidRecord⟩ := clsF_of Y.p_InvalidRecord q_InvalidRecord
  have CM := cmg_of Y.p_InvalidSequence q_InvalidSequence
  have g_is_whole := ok_is_whole (P := P) (w := w) (base := base) Y.d_is_whole T
  have g_is_within := ok_is_within (P := P) (w := w) (base := base) Y.d_is_within g_is_whole
  have g_is_listed := ok_is_listed (P := P) (w := w) (base := base) Y.d_is_listed T
  have g_is_couple := ok_is_couple (P := P) (w := w) (base := base) Y.d_is_couple T
  have g_is_kind := ok_is_kind (P := P) (w := w) (base := base) Y.d_is_kind T
  have g_is_run := ok_is_run (P := P) (w := w) (base := base) Y.d_is_run T g_is_couple g_is_kind g_is_within
  have g_is_state := ok_is_state (P := P) (w := w) (base := base) Y.d_is_state T g_is_couple g_is_kind g_is_whole
  have g_is_sequence := ok_is_sequence (P := P) (w := w) (base := base) Y.d_is_sequence T g_is_listed g_is_run
  have g_checked_state := ok_checked_state (P := P) (w := w) (base := base) Y.d_checked_state T X_InvalidState g_is_state
  have g_checked_runs := ok_checked_runs (P := P) (w := w) (base := base) Y.d_checked_runs T X_InvalidSequence g_is_sequence
  have g_is_entry := ok_is_entry (P := P) (w := w) (base := base) Y.d_is_entry T g_is_couple g_is_kind
  have g_is_record := ok_is_record (P := P) (w := w) (base := base) Y.d_is_record T g_is_listed g_is_entry
  have g_run_word := ok_run_word (P := P) (w := w) (base := base) Y.d_run_word T
  have g_format_sequence := ok_format_sequence (P := P) (w := w) (base := base) Y.d_format_sequence g_checked_runs g_run_word
  have g_format_state := ok_format_state (P := P) (w := w) (base := base) Y.d_format_state g_checked_state g_run_word
  have g_format_record := ok_format_record (P := P) (w := w) (base := base) Y.d_format_record TD X_InvalidRecord g_is_record
  have g_law_class := ok_law_class (P := P) (w := w) (base := base) (CX := CX0) Y.d_law_class T CM
  have g_law_outcome := ok_law_outcome (P := P) (w := w) (base := base) Y.d_law_outcome CM F_InvalidSequence F_InvalidState F_InvalidRecord g_law_class g_format_sequence g_format_state g_format_record
  have g_law_bag := ok_law_bag (P := P) (w := w) (base := base) Y.d_law_bag T
  have g_law_stir := ok_law_stir (P := P) (w := w) (base := base) Y.d_law_stir T
  have g_law_draw := ok_law_draw (P := P) (w := w) (base := base) Y.d_law_draw T g_law_stir
  have g_law_no_sequences := ok_law_no_sequences (P := P) (w := w) (base := base) Y.d_law_no_sequences
  have g_law_no_states := ok_law_no_states (P := P) (w := w) (base := base) Y.d_law_no_states
  have g_law_no_records := ok_law_no_records (P := P) (w := w) (base := base) Y.d_law_no_records
  have g_law_shuffled := ok_law_shuffled (P := P) (w := w) (base := base) Y.d_law_shuffled T g_law_draw
  exact fn_law F T g_law_bag g_law_no_sequences g_law_no_states g_law_no_records g_law_shuffled g_law_outcome
theorem all_mk {P : Program} {w : World} {K : PySem.W.Frag} {h : Heap} {mg : Str → Option Value} {fa f : Addr} {od an : Option Addr} {sl : Array (Option Value)} {oc kV dc pm cd ct : Value} (X : K.In h) (G : h.Ns mainGlobals mg) (hfa : mg "law" = some (.ref fa)) (a : PySem.W.nsIn K mainGlobals "law" = some (some (.ref f)))
    (l : K.lookup f = some ⟨oc, od, .func (PySem.W.fnOf "law" "law" (defArgs s_law) (defBody s_law) (defScope s_law) .none kV dc pm an cd ct), sl⟩) (c : PySem.W.codeIn K cd "law" = true) (k : PySem.W.keepIn K (.ref f) = true) (Y : Top K w mg) :
    ∃ fd : FuncData, (∀ (s : Shared) (v : Value), BindsTo s fd ⟨[v], []⟩ [("script", v)]) ∧ ∀ base : Heap, K.In base → base.Ns mainGlobals mg → FnC P w K mg base fa fd ["script"] (sp_law K) := by
  have e := hfa.symm.trans (PySem.W.mg_of X G a)
  cases e
  exact ⟨_, fun s v => .of_eq rfl, fun base _ _ => Y.law (fun_mk (st := s_law) l c k) base⟩
end UP
open PySem PySem.W PyProof.Rows
set_option maxHeartbeats 0 in
theorem PySem.Challenge.cw_unlikepairs_k56_format_errors_holds : PySem.Challenge.rw_unlikepairs_k56_format_errors.Holds := by
  w_on; o_law; k_head; (case hw => w_witness2)
  k_fill
  refine UP.walkC (l := PySem.Challenge.rw_unlikepairs_k56_format_errors) (n := 63) (x := "script") (sp := fun w => UP.sp_law _) rfl (by decide) rfl (fun w h Y => PySem.W.kIn_of Y) ?F (fun _ _ a ns hl hS => ⟨a, ns, rfl, hS, hl, fun _ => rfl⟩)
  case F =>
    intro w mg fa h KX G hmg
    refine' UP.all_mk KX G hmg ?a ?l ?c ?k ?Y
    (case a => k_is); (case l => k_is); (case c => k_is); (case k => k_is)
    case Y =>
      constructor
      · constructor
        · refine' PySem.W.mg_none_of KX G ?z; (case z => k_is)
        · refine' PySem.W.mg_none_of KX G ?z; (case z => k_is)
        · refine' PySem.W.mg_none_of KX G ?z; (case z => k_is)
        · refine' PySem.W.mg_none_of KX G ?z; (case z => k_is)
        · refine' PySem.W.mg_none_of KX G ?z; (case z => k_is)
        · refine' PySem.W.mg_none_of KX G ?z; (case z => k_is)
        · refine' PySem.W.mg_none_of KX G ?z; (case z => k_is)
        · refine' PySem.W.mg_none_of KX G ?z; (case z => k_is)
        · refine' PySem.W.mg_none_of KX G ?z; (case z => k_is)
        · refine' PySem.W.mg_none_of KX G ?z; (case z => k_is)
        · refine' PySem.W.mg_none_of KX G ?z; (case z => k_is)
        · refine' PySem.W.mg_none_of KX G ?z; (case z => k_is)
        · refine' PySem.W.mg_none_of KX G ?z; (case z => k_is)
        · refine' PySem.W.mg_none_of KX G ?z; (case z => k_is)
        · refine' PySem.W.mg_none_of KX G ?z; (case z => k_is)
        · refine' PySem.W.mg_none_of KX G ?z; (case z => k_is)
        · refine' PySem.W.mg_none_of KX G ?z; (case z => k_is)
        · refine' PySem.W.mg_none_of KX G ?z; (case z => k_is)
        · refine' PySem.W.mg_none_of KX G ?z; (case z => k_is)
        · refine' PySem.W.mg_none_of KX G ?z; (case z => k_is)
        · refine' PySem.W.mg_none_of KX G ?z; (case z => k_is)
        · refine' PySem.W.mg_none_of KX G ?z; (case z => k_is)
        · refine' PySem.W.mg_none_of KX G ?z; (case z => k_is)
        · refine' UP.cst_mk KX G ?z; (case z => k_is)
        · refine' UP.cst_mk KX G ?z; (case z => k_is)
        · refine' UP.cst_mk KX G ?z; (case z => k_is)
        · refine' UP.cst_mk KX G ?z; (case z => k_is)
      · refine' UP.p1_mk KX G ?a ?b ?x ?k ?bs ?t ?e1 ?e2 ?e3 ?e4 ?e5 ?e6 ?e7 ?m ?k1 ?k2; (case a => k_is); (case b => k_is); (case x => first | k_exc | k_is); (case k => k_is); (case bs => k_is); (case t => k_is); (case e1 => k_is); (case e2 => k_is); (case e3 => k_is); (case e4 => k_is); (case e5 => k_is); (case e6 => k_is); (case e7 => k_is); (case m => kts_exm); (case k1 => kit_is); (case k2 => kit_is)
      · refine' UP.p2_mk KX G ?a ?b ?k; (case a => k_is); (case b => k_is); (case k => kit_is)
      · refine' UP.p2_mk KX G ?a ?b ?k; (case a => k_is); (case b => k_is); (case k => kit_is)
      · refine' UP.p2_mk KX G ?a ?b ?k; (case a => k_is); (case b => k_is); (case k => kit_is)
      · refine' UP.p2_mk KX G ?a ?b ?k; (case a => k_is); (case b => k_is); (case k => kit_is)
      · refine' UP.p2_mk KX G ?a ?b ?k; (case a => k_is); (case b => k_is); (case k => kit_is)
      · refine' UP.p2_mk KX G ?a ?b ?k; (case a => k_is); (case b => k_is); (case k => kit_is)
      · refine' UP.p2_mk KX G ?a ?b ?k; (case a => k_is); (case b => k_is); (case k => kit_is)
      · refine' UP.p2_mk KX G ?a ?b ?k; (case a => k_is); (case b => k_is); (case k => kit_is)
      · refine' UP.p2_mk KX G ?a ?b ?k; (case a => k_is); (case b => k_is); (case k => kit_is)
      · refine' UP.p2_mk KX G ?a ?b ?k; (case a => k_is); (case b => k_is); (case k => kit_is)
      · refine' UP.p2_mk KX G ?a ?b ?k; (case a => k_is); (case b => k_is); (case k => kit_is)
      · refine' UP.p2_mk KX G ?a ?b ?k; (case a => k_is); (case b => k_is); (case k => kit_is)
      · refine' UP.p2_mk KX G ?a ?b ?k; (case a => k_is); (case b => k_is); (case k => kit_is)
      · refine' UP.p2_mk KX G ?a ?b ?k; (case a => k_is); (case b => k_is); (case k => kit_is)
      · refine' UP.p2_mk KX G ?a ?b ?k; (case a => k_is); (case b => k_is); (case k => kit_is)
      · refine' UP.p2_mk KX G ?a ?b ?k; (case a => k_is); (case b => k_is); (case k => kit_is)
      · refine' UP.p2_mk KX G ?a ?b ?k; (case a => k_is); (case b => k_is); (case k => kit_is)
      · refine' UP.p2_mk KX G ?a ?b ?k; (case a => k_is); (case b => k_is); (case k => kit_is)
      · refine' UP.p1_mk KX G ?a ?b ?x ?k ?bs ?t ?e1 ?e2 ?e3 ?e4 ?e5 ?e6 ?e7 ?m ?k1 ?k2; (case a => k_is); (case b => k_is); (case x => first | k_exc | k_is); (case k => k_is); (case bs => k_is); (case t => k_is); (case e1 => k_is); (case e2 => k_is); (case e3 => k_is); (case e4 => k_is); (case e5 => k_is); (case e6 => k_is); (case e7 => k_is); (case m => kts_exm); (case k1 => kit_is); (case k2 => kit_is)
      · refine' UP.p2_mk KX G ?a ?b ?k; (case a => k_is); (case b => k_is); (case k => kit_is)
      · refine' UP.p2_mk KX G ?a ?b ?k; (case a => k_is); (case b => k_is); (case k => kit_is)
      · refine' UP.p2_mk KX G ?a ?b ?k; (case a => k_is); (case b => k_is); (case k => kit_is)
      · refine' UP.p2_mk KX G ?a ?b ?k; (case a => k_is); (case b => k_is); (case k => kit_is)
      · refine' UP.p2_mk KX G ?a ?b ?k; (case a => k_is); (case b => k_is); (case k => kit_is)
      · refine' UP.p2_mk KX G ?a ?b ?k; (case a => k_is); (case b => k_is); (case k => kit_is)
      · refine' UP.p2_mk KX G ?a ?b ?k; (case a => k_is); (case b => k_is); (case k => kit_is)
      · refine' UP.p2_mk KX G ?a ?b ?k; (case a => k_is); (case b => k_is); (case k => kit_is)
      · refine' UP.p2_mk KX G ?a ?b ?k; (case a => k_is); (case b => k_is); (case k => kit_is)
      · refine' UP.p2_mk KX G ?a ?b ?k; (case a => k_is); (case b => k_is); (case k => kit_is)
      · refine' UP.p2_mk KX G ?a ?b ?k; (case a => k_is); (case b => k_is); (case k => kit_is)
      · refine' UP.p2_mk KX G ?a ?b ?k; (case a => k_is); (case b => k_is); (case k => kit_is)
      · refine' UP.p2_mk KX G ?a ?b ?k; (case a => k_is); (case b => k_is); (case k => kit_is)
      · refine' UP.p2_mk KX G ?a ?b ?k; (case a => k_is); (case b => k_is); (case k => kit_is)
      · refine' UP.p2_mk KX G ?a ?b ?k; (case a => k_is); (case b => k_is); (case k => kit_is)
      · refine' UP.p2_mk KX G ?a ?b ?k; (case a => k_is); (case b => k_is); (case k => kit_is)
      · refine' UP.p2_mk KX G ?a ?b ?k; (case a => k_is); (case b => k_is); (case k => kit_is)
      · refine' UP.p2_mk KX G ?a ?b ?k; (case a => k_is); (case b => k_is); (case k => kit_is)
      · refine' UP.p1_mk KX G ?a ?b ?x ?k ?bs ?t ?e1 ?e2 ?e3 ?e4 ?e5 ?e6 ?e7 ?m ?k1 ?k2; (case a => k_is); (case b => k_is); (case x => first | k_exc | k_is); (case k => k_is); (case bs => k_is); (case t => k_is); (case e1 => k_is); (case e2 => k_is); (case e3 => k_is); (case e4 => k_is); (case e5 => k_is); (case e6 => k_is); (case e7 => k_is); (case m => kts_exm); (case k1 => kit_is); (case k2 => kit_is)
      · refine' UP.p2_mk KX G ?a ?b ?k; (case a => k_is); (case b => k_is); (case k => kit_is)
      · refine' UP.p2_mk KX G ?a ?b ?k; (case a => k_is); (case b => k_is); (case k => kit_is)
      · refine' UP.p2_mk KX G ?a ?b ?k; (case a => k_is); (case b => k_is); (case k => kit_is)
      · refine' UP.p2_mk KX G ?a ?b ?k; (case a => k_is); (case b => k_is); (case k => kit_is)
      · refine' UP.p2_mk KX G ?a ?b ?k; (case a => k_is); (case b => k_is); (case k => kit_is)
      · refine' UP.p2_mk KX G ?a ?b ?k; (case a => k_is); (case b => k_is); (case k => kit_is)
      · refine' UP.p2_mk KX G ?a ?b ?k; (case a => k_is); (case b => k_is); (case k => kit_is)
      · refine' UP.p2_mk KX G ?a ?b ?k; (case a => k_is); (case b => k_is); (case k => kit_is)
      · refine' UP.p2_mk KX G ?a ?b ?k; (case a => k_is); (case b => k_is); (case k => kit_is)
      · refine' UP.p2_mk KX G ?a ?b ?k; (case a => k_is); (case b => k_is); (case k => kit_is)
      · refine' UP.p2_mk KX G ?a ?b ?k; (case a => k_is); (case b => k_is); (case k => kit_is)
      · refine' UP.p2_mk KX G ?a ?b ?k; (case a => k_is); (case b => k_is); (case k => kit_is)
      · refine' UP.p2_mk KX G ?a ?b ?k; (case a => k_is); (case b => k_is); (case k => kit_is)
      · refine' UP.p2_mk KX G ?a ?b ?k; (case a => k_is); (case b => k_is); (case k => kit_is)
      · refine' UP.p2_mk KX G ?a ?b ?k; (case a => k_is); (case b => k_is); (case k => kit_is)
      · refine' UP.p2_mk KX G ?a ?b ?k; (case a => k_is); (case b => k_is); (case k => kit_is)
      · refine' UP.p2_mk KX G ?a ?b ?k; (case a => k_is); (case b => k_is); (case k => kit_is)
      · refine' UP.p2_mk KX G ?a ?b ?k; (case a => k_is); (case b => k_is); (case k => kit_is)
      · refine' UP.df_mk KX G ?a ?l ?c ?k; (case a => k_is); (case l => k_is); (case c => k_is); (case k => k_is)
      · refine' UP.df_mk KX G ?a ?l ?c ?k; (case a => k_is); (case l => k_is); (case c => k_is); (case k => k_is)
      · refine' UP.df_mk KX G ?a ?l ?c ?k; (case a => k_is); (case l => k_is); (case c => k_is); (case k => k_is)
      · refine' UP.df_mk KX G ?a ?l ?c ?k; (case a => k_is); (case l => k_is); (case c => k_is); (case k => k_is)
      · refine' UP.df_mk KX G ?a ?l ?c ?k; (case a => k_is); (case l => k_is); (case c => k_is); (case k => k_is)
      · refine' UP.df_mk KX G ?a ?l ?c ?k; (case a => k_is); (case l => k_is); (case c => k_is); (case k => k_is)
      · refine' UP.df_mk KX G ?a ?l ?c ?k; (case a => k_is); (case l => k_is); (case c => k_is); (case k => k_is)
      · refine' UP.df_mk KX G ?a ?l ?c ?k; (case a => k_is); (case l => k_is); (case c => k_is); (case k => k_is)
      · refine' UP.df_mk KX G ?a ?l ?c ?k; (case a => k_is); (case l => k_is); (case c => k_is); (case k => k_is)
      · refine' UP.df_mk KX G ?a ?l ?c ?k; (case a => k_is); (case l => k_is); (case c => k_is); (case k => k_is)
      · refine' UP.df_mk KX G ?a ?l ?c ?k; (case a => k_is); (case l => k_is); (case c => k_is); (case k => k_is)
      · refine' UP.df_mk KX G ?a ?l ?c ?k; (case a => k_is); (case l => k_is); (case c => k_is); (case k => k_is)
      · refine' UP.df_mk KX G ?a ?l ?c ?k; (case a => k_is); (case l => k_is); (case c => k_is); (case k => k_is)
      · refine' UP.df_mk KX G ?a ?l ?c ?k; (case a => k_is); (case l => k_is); (case c => k_is); (case k => k_is)
      · refine' UP.df_mk KX G ?a ?l ?c ?k; (case a => k_is); (case l => k_is); (case c => k_is); (case k => k_is)
      · refine' UP.df_mk KX G ?a ?l ?c ?k; (case a => k_is); (case l => k_is); (case c => k_is); (case k => k_is)
      · refine' UP.df_mk KX G ?a ?l ?c ?k; (case a => k_is); (case l => k_is); (case c => k_is); (case k => k_is)
      · refine' UP.df_mk KX G ?a ?l ?c ?k; (case a => k_is); (case l => k_is); (case c => k_is); (case k => k_is)
      · refine' UP.df_mk KX G ?a ?l ?c ?k; (case a => k_is); (case l => k_is); (case c => k_is); (case k => k_is)
      · refine' UP.df_mk KX G ?a ?l ?c ?k; (case a => k_is); (case l => k_is); (case c => k_is); (case k => k_is)
      · refine' UP.df_mk KX G ?a ?l ?c ?k; (case a => k_is); (case l => k_is); (case c => k_is); (case k => k_is)
      · refine' UP.df_mk KX G ?a ?l ?c ?k; (case a => k_is); (case l => k_is); (case c => k_is); (case k => k_is)
      · refine' UP.df_mk KX G ?a ?l ?c ?k; (case a => k_is); (case l => k_is); (case c => k_is); (case k => k_is)
      · refine' UP.df_mk KX G ?a ?l ?c ?k; (case a => k_is); (case l => k_is); (case c => k_is); (case k => k_is)
      · refine' UP.df_mk KX G ?a ?l ?c ?k; (case a => k_is); (case l => k_is); (case c => k_is); (case k => k_is)
      · refine' UP.mrk_mk KX G ?a ?l ?kl ?m1 ?m2; (case a => k_is); (case l => k_is); (case kl => exact ⟨⟨_, _, rfl, rfl⟩, ⟨_, _, rfl, rfl⟩, True.intro⟩); (case m1 => k_is); (case m2 => k_is)
