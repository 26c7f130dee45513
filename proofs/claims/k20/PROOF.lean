import PyProof.Rows.All
import Wide.All
import OpenK.AllK
import Wide.FinOn
import HandS.ForMost
import HandS.Wide
import HandS.IsInst
import HandS.Defaults
import HandS.Codes
import HandS.Style
import PyProof.ReprRoads
import PyProof.ReprLen
import HandS.Zip
import HandS.NoneIn
import HandS.TupAny
import HandS.SortInts
import HandS.SetFor
import HandS.RevRange
import HandS.Walk
import HandS.TupSets
import HandS.ForExc
import HandS.ExcOwn
import HandS.WordsExc
import HandS.ExcCtx
import HandS.TryOnly
import HandS.ExcIs
import HandS.ExcValue
import PySem.Challenge.RW_unlikepairs_k20_effect_errors
set_option Elab.async false
set_option linter.all false
set_option maxRecDepth 100000
set_option maxHeartbeats 4000000
namespace UP
open PySem PySem.Spec PyProof.Rows L2

/-! ### a def that keeps a promise, by its name -/
section
variable (P : Program) (w : World) (K : PySem.W.Frag) (mg : Str → Option Value) (base : Heap)
def Has (k : Nat) (x : Str) (ps : List Str) (sp : Sp) : Prop :=
  ∃ f fd, mg x = some (.ref f) ∧ PySem.W.keepIn K (.ref f) = true ∧ Binds K fd ps [] ∧ FnOk P w K mg base CX0 k f fd ps sp
def Df (x : Str) (st : Stmt) : Prop := ∃ f fd, mg x = some (.ref f) ∧ Fun K x x st f fd
end
theorem Df.of {K : PySem.W.Frag} {mg : Str → Option Value} {x : Str} {st : Stmt} {f : Addr} {fd : FuncData} (g : mg x = some (.ref f)) (F : Fun K x x st f fd) : Df K mg x st := ⟨f, fd, g, F⟩
section
variable {P : Program} {w : World} {K : PySem.W.Frag} {mg : Str → Option Value} {base : Heap}
theorem has_of {x : Str} {st : Stmt} {ps N : List Str} {k : Nat} {sp : Sp} (D : Df K mg x st) (S : FnScope N ps (defScope st))
    (hb : ∀ (kV doc pm : Value) (an : Option Addr) (cdv ct : Value) (us : List Value), us.length = ps.length → bindArgs (PySem.W.fnOf x x (defArgs st) (defBody st) (defScope st) .none kV doc pm an cdv ct) ⟨us, []⟩ = pure (ps.zip us))
    (len : ∀ vs H Q E, sp vs H Q E → vs.length = ps.length)
    (body : ∀ (f : Addr) (cdv : Value) (A : Around) (outer : List Env) (s : Shared) (H : Hp) (vs : List V) (Q : VK) (E : XK), Room k (A.deeper (envOfC x (defScope st) s.heap.objs.size f cdv)) → sp vs H Q E →
      ∃ t, PSs (cxOf CX0 P w K mg base N x (defScope st) f cdv A outer s H E).nox (defBody st) t ∧ t { nx := fun _ H' => Q .non H', rt := Q } (start N vs) H) :
    Has P w K mg base (k + 1) x ps sp := by
  obtain ⟨f, fd, g, F⟩ := D
  exact ⟨f, fd, g, F.kp, F.binds hb, F.ok S len fun cdv A outer s H vs Q E hr h => body f cdv A outer s H vs Q E hr h⟩
theorem Has.weak {x : Str} {ps : List Str} {k : Nat} {sp sp' : Sp} (h : Has P w K mg base k x ps sp) (e : sp = sp') : Has P w K mg base k x ps sp' := e ▸ h
end
section
variable {X : Cx}
theorem pe_callH {k : Nat} {x : Str} {ps : List Str} {sp : Sp} {p pos : Pos} {e : Expr} {es : List Expr} {t : TA} (G : Has X.prog X.w X.K X.mg X.base k x ps sp) (hr : Room k X.A) (hg : Gl X x) (ha : PA X (e :: es) t)
    (hdb : (x == ("__debug__" : Str)) = false := by decide) (he : starEach (e :: es) X.env = (false, eval e X.env) :: starEach es X.env := by rfl) (hpl : (backTo pos (starEach es X.env)).any (·.1) = false := by rfl) :
    PE X (.Call (.Name x p) (e :: es) [] pos) (tCall sp [] E0 t) := by
  obtain ⟨f, fd, g, kp, b, F⟩ := G
  exact pe_call F hr hg g kp b .nil pass0 ha hdb he hpl
theorem pe_glI {x : Str} {i : Int} {pos : Pos} (h : ∃ t, X.mg x = some (.int i t)) (hg : Gl X x) (hd : (x == ("__debug__" : Str)) = false := by decide) : PE X (.Name x pos) (tC (.int i)) := by
  obtain ⟨t, h⟩ := h
  exact pe_glob hg h ⟨t, rfl⟩ hd
end

/-! ### heaps -/
theorem same_upd {H : Hp} {p : Addr} {o : HO} (h : H p = none) : Same H (upd H p o) := fun b x e => by
  rw [upd_ne (ne_of_none e h)]
  exact e
/-- all but the object at sp is as it was -/
def But (sp : Addr) (H H' : Hp) : Prop := ∀ b o, b ≠ sp → H b = some o → H' b = some o
theorem Same.but {sp : Addr} {H H' : Hp} (h : Same H H') : But sp H H' := fun b o _ e => h b o e
theorem But.trans {sp : Addr} {H H1 H2 : Hp} (a : But sp H H1) (b : But sp H1 H2) : But sp H H2 := fun c o n e => b c o n (a c o n e)
theorem But.refl {sp : Addr} {H : Hp} : But sp H H := fun _ _ _ e => e
theorem but_upd {sp : Addr} {H : Hp} {o : HO} : But sp H (upd H sp o) := fun b x n e => by
  rw [upd_ne n]
  exact e
theorem small {n : Nat} (h : n ≤ 1000000) : n < sizeLine := Nat.lt_of_le_of_lt h (by decide)
theorem smallE {n : Nat} (h : n ≤ 1000000) : n ≤ sizeLine := Nat.le_of_lt (small h)

/-! ### runs and states -/
abbrev Run := Str × Int
def RunV (H : Hp) (v : V) (r : Run) : Prop := ∃ t, v = .ref t ∧ H t = some (.tup [.str r.1, .int r.2])
def Runs (H : Hp) (a : Addr) (rs : List Run) : Prop := ∃ xs, H a = some (.lst xs) ∧ Paired (RunV H) xs rs
def StV (H : Hp) (v : V) : Option Run → Prop
  | none => v = .non
  | some r => RunV H v r
theorem RunV.same {H H' : Hp} {v : V} {r : Run} (s : Same H H') (h : RunV H v r) : RunV H' v r := by
  obtain ⟨t, e, h⟩ := h
  exact ⟨t, e, s _ _ h⟩
theorem Paired.len {α β : Type} {F : α → β → Prop} : ∀ {l₁ : List α} {l₂ : List β}, Paired F l₁ l₂ → l₁.length = l₂.length
  | _, _, .nil => rfl
  | _, _, .cons _ t => congrArg Nat.succ (Paired.len t)
theorem Paired.at {α β : Type} {F : α → β → Prop} : ∀ {l₁ : List α} {l₂ : List β} {i : Nat} {x : α}, Paired F l₁ l₂ → l₁[i]? = some x → ∃ y, l₂[i]? = some y ∧ F x y
  | _, _, _, _, .nil, h => by simp at h
  | _, _, 0, _, .cons h _, e => by
    simp only [List.getElem?_cons_zero, Option.some.injEq] at e
    subst e
    exact ⟨_, by simp, h⟩
  | _, _, i + 1, _, .cons _ t, e => by
    simp only [List.getElem?_cons_succ] at e ⊢
    exact Paired.at t e
theorem Paired.at' {α β : Type} {F : α → β → Prop} : ∀ {l₁ : List α} {l₂ : List β} {i : Nat} {y : β}, Paired F l₁ l₂ → l₂[i]? = some y → ∃ x, l₁[i]? = some x ∧ F x y
  | _, _, _, _, .nil, h => by simp at h
  | _, _, 0, _, .cons h _, e => by
    simp only [List.getElem?_cons_zero, Option.some.injEq] at e
    subst e
    exact ⟨_, by simp, h⟩
  | _, _, i + 1, _, .cons _ t, e => by
    simp only [List.getElem?_cons_succ] at e ⊢
    exact Paired.at' t e
theorem Paired.imp {α β : Type} {F G : α → β → Prop} (f : ∀ a b, F a b → G a b) : ∀ {l₁ : List α} {l₂ : List β}, Paired F l₁ l₂ → Paired G l₁ l₂
  | _, _, .nil => .nil
  | _, _, .cons h t => .cons (f _ _ h) (Paired.imp f t)
theorem Paired.app {α β : Type} {F : α → β → Prop} : ∀ {l₁ m₁ : List α} {l₂ m₂ : List β}, Paired F l₁ l₂ → Paired F m₁ m₂ → Paired F (l₁ ++ m₁) (l₂ ++ m₂)
  | _, _, _, _, .nil, h => h
  | _, _, _, _, .cons h t, k => .cons h (Paired.app t k)
theorem Paired.dropp {α β : Type} {F : α → β → Prop} : ∀ {l₁ : List α} {l₂ : List β} (n : Nat), Paired F l₁ l₂ → Paired F (l₁.drop n) (l₂.drop n)
  | _, _, 0, h => h
  | _, _, n + 1, .nil => .nil
  | _, _, n + 1, .cons _ t => by
    simp only [List.drop_succ_cons]
    exact Paired.dropp n t
theorem Paired.takep {α β : Type} {F : α → β → Prop} : ∀ {l₁ : List α} {l₂ : List β} (n : Nat), Paired F l₁ l₂ → Paired F (l₁.take n) (l₂.take n)
  | _, _, 0, h => by simp only [List.take_zero]; exact .nil
  | _, _, n + 1, .nil => .nil
  | _, _, n + 1, .cons h t => by
    simp only [List.take_succ_cons]
    exact .cons h (Paired.takep n t)
theorem Runs.same {H H' : Hp} {a : Addr} {rs : List Run} (s : Same H H') (h : Runs H a rs) : Runs H' a rs := by
  obtain ⟨xs, e, p⟩ := h
  exact ⟨xs, s _ _ e, Paired.imp (fun _ _ => RunV.same s) p⟩
theorem StV.same {H H' : Hp} {v : V} {st : Option Run} (s : Same H H') (h : StV H v st) : StV H' v st := by
  cases st with
  | none => exact h
  | some r => exact RunV.same s h
/-- the spring: a list of three ints -/
def Spr (H : Hp) (sp : Addr) : Prop := ∃ d s c : Int, H sp = some (.lst [.int d, .int s, .int c]) ∧ 0 ≤ d ∧ d.natAbs < 2 ^ 20000 ∧ 0 ≤ s ∧ s < 2305843009213693951
theorem RunV.but {H H' : Hp} {sp : Addr} {v : V} {r : Run} (z : Spr H sp) (s : But sp H H') (h : RunV H v r) : RunV H' v r := by
  obtain ⟨t, e, h⟩ := h
  obtain ⟨_, _, _, hs, _⟩ := z
  exact ⟨t, e, s _ _ (ne_of h hs (by intro q; cases q)) h⟩
theorem Runs.ne {H : Hp} {sp a : Addr} {rs : List Run} (z : Spr H sp) (h : Runs H a rs) : a ≠ sp := by
  obtain ⟨xs, e, p⟩ := h
  obtain ⟨d, s, c, hs, _⟩ := z
  refine ne_of e hs fun q => ?_
  have q := HO.lst.inj q
  subst q
  cases p with
  | cons h _ =>
    obtain ⟨t, e, _⟩ := h
    cases e
theorem Runs.but {H H' : Hp} {sp a : Addr} {rs : List Run} (z : Spr H sp) (s : But sp H H') (h : Runs H a rs) : Runs H' a rs := by
  have n := Runs.ne z h
  obtain ⟨xs, e, p⟩ := h
  exact ⟨xs, s _ _ n e, Paired.imp (fun _ _ => RunV.but z s) p⟩
theorem StV.but {H H' : Hp} {sp : Addr} {v : V} {st : Option Run} (z : Spr H sp) (s : But sp H H') (h : StV H v st) : StV H' v st := by
  cases st with
  | none => exact h
  | some r => exact RunV.but z s h
theorem Spr.same {H H' : Hp} {sp : Addr} (z : Spr H sp) (s : Same H H') : Spr H' sp := by
  obtain ⟨d, e, c, hs, r⟩ := z
  exact ⟨d, e, c, s _ _ hs, r⟩
def KindOk (s : Str) : Prop := 1 ≤ s.length ∧ s.length ≤ 8 ∧ ∀ c ∈ s.cps.toList, 97 ≤ c ∧ c ≤ 122
def RunOk (r : Run) : Prop := KindOk r.1 ∧ 1 ≤ r.2 ∧ r.2 ≤ 1000000000000000000000000000000
def Alt (rs : List Run) : Prop := ∀ (i : Nat) (x y : Run), rs[i]? = some x → rs[i + 1]? = some y → x.1 ≠ y.1
def SeqOk (rs : List Run) : Prop := rs.length ≤ 400 ∧ (∀ r ∈ rs, RunOk r) ∧ Alt rs
end UP

set_option Elab.async false
set_option linter.all false
set_option maxRecDepth 100000
set_option maxHeartbeats 4000000
namespace UP
open PySem PySem.Spec PyProof.Rows L2
/-! ### repr of plain data, where no other repr is under way -/
def rRepr (K : PySem.W.Frag) : List V → Hp → VK → Prop := fun xs H Q => ∃ (a : Addr) (d : PyData), xs = [.ref a] ∧ Dp K H (.ref a) d ∧ d.showable = true ∧ SeqAt.shaped d = true ∧ d.shown.length ≤ sizeLine ∧ Q (.str d.shown) H
theorem call_reprD {X : Cx} (hg : X.A.guards = some []) (hu : X.A.units + 70 < cLine) : CallR X (.builtin "repr") (rRepr X.K) := by
  intro pins s σ H xs us Q I r h
  obtain ⟨a, d, rfl, dp, sh, sp, sz, q⟩ := h
  obtain ⟨u, rfl, ru⟩ := vals1 r
  cases (show u = Value.ref a from ru)
  obtain ⟨as, rd⟩ := Dp.reads I d (.ref a) (.ref a) dp rfl
  have dd := SeqAt.depth_of_shaped sp
  refine repr_of_reads' rd sh (PyData.noDict_hsm (PyData.hasDict_of_canLay d (SeqAt.canLay_of_shaped sp))) hg (by omega) (fun _ _ e => e) (fun h' u tk hk => ?_) sz
  exact ⟨.str d.shown, H, I.kept (t' := tk) hk, ⟨u, rfl⟩, q⟩
/-! ### the law's own call, around it nothing -/
structure FnC (P : Program) (w : World) (K : PySem.W.Frag) (mg : Str → Option Value) (base : Heap) (f : Addr) (fd : FuncData) (ps : List Str) (sp : Sp) : Prop where
  go : ∀ (out : List Env) (s : Shared) (H : Hp) (args : Args) (us : List Value) (vs : List V) (Q : VK) (E : XK), Env0 P w K mg base callerA out s H → BindsTo s fd args (ps.zip us) → Vals vs us → sp vs H Q E →
    codeAny (model P w) callerA (.call (.ref f) args) (CR CX0 out P w H s Q E) s
theorem callerA_room : Room 8 callerA := ⟨rfl, by decide, by decide⟩
section
variable {P : Program} {w : World} {K : PySem.W.Frag} {mg : Str → Option Value} {base : Heap}
theorem fnC_of {x : Str} {st : Stmt} {f : Addr} {fd : FuncData} {ps N : List Str} {sp : Sp} (F : Fun K x x st f fd) (S : FnScope N ps (defScope st)) (len : ∀ vs H Q E, sp vs H Q E → vs.length = ps.length)
    (body : ∀ (cdv : Value) (out : List Env) (s : Shared) (H : Hp) (vs : List V) (Q : VK) (E : XK), Room 7 (callerA.deeper (envOfC x (defScope st) s.heap.objs.size f cdv)) → sp vs H Q E →
      ∃ t, PSs (cxOf CX0 P w K mg base N x (defScope st) f cdv callerA out s H E).nox (defBody st) t ∧ t { nx := fun _ H' => Q .non H', rt := Q } (start N vs) H) : FnC P w K mg base f fd ps sp := by
  obtain ⟨oc, od, kV, doc, pm, an, cdv, ct, osl, rfl, lk, hcd⟩ := F.ex
  refine ⟨fun out s H args us vs Q E e0 hb rv hsp => ?_⟩
  have inS : K.In s.heap := e0.mod.kin.keeps fun b o z => (e0.bs b o z).1
  have noL : s.heap.NoLimit := e0.mod.nolimit.keeps fun b o z => (e0.bs b o z).1
  have kinds : ∀ y ∈ ps.zip us, (defScope st).names.lookup y.1 = some .local ∨ ((defScope st).names.lookup y.1 = some .cell ∧ ((cellsFrom (s.heap.objs.size + 1) (defScope st).names []).lookup y.1).isSome = true) := by
    intro y hy
    rcases S.par y.1 (List.of_mem_zip (a := y.1) (b := y.2) hy).1 with z | z
    · exact Or.inl z
    · exact Or.inr ⟨z, PySem.W.cellsFrom_some _ _ _ (Or.inl z)⟩
  refine codeAny_call_function callerA_room.depth (inS _ _ lk) rfl S.co S.gen rfl (PySem.W.codeRec_of inS hcd) (hb _ _ _ _ ?_)
  refine wpAny_newFunctionEnv_cells S.kind kinds fun env he s1 inC => ?_
  subst he
  refine ⟨noL.keeps inC.toInCall.keep, codeAny_func ?_⟩
  obtain ⟨t, ht0, hq⟩ := body cdv out s H vs Q E (callerA_room.deeper _) hsp
  have ht := PSs.nox ht0
  have I0 : Inv (cxOf CX0 P w K mg base N x (defScope st) f cdv callerA out s H E) [] (start N vs) H s1 := inv_start S rfl e0 (len _ _ _ _ hsp) rv inC
  refine wpAny_mono (ht.run [] s1 (start N vs) H _ I0 hq) (fun fl s2 h2 => ?_) fun _ _ z => z
  cases fl with
  | next =>
    obtain ⟨σ2, H2, J, q2⟩ := h2
    exact ⟨V.non, H2, J.os, J.bare, J.base, J.hok, rfl, q2⟩
  | ret u =>
    obtain ⟨v, σ2, H2, J, rv2, q2⟩ := h2
    exact ⟨v, H2, J.os, J.bare, J.base, J.hok, rv2, q2⟩
  | brk =>
    obtain ⟨_, _, _, z⟩ := h2
    exact z.elim
  | cont =>
    obtain ⟨_, _, _, z⟩ := h2
    exact z.elim
end
/-- the heap that holds the script alone, locked -/
def oneH (a : Addr) (o : Obj) (xs : List V) : Hp := fun b => if b = a then some (.frz o (.lst xs)) else none
theorem run_law {P : Program} {w : World} {K : PySem.W.Frag} {mg mb : Str → Option Value} {fa a : Addr} {fd : FuncData} {x : Str} {sp : Sp} {s : Shared} {vs : List Value} {ns : List Int}
    (kx : K.In s.heap) (gns : s.heap.Ns mainGlobals mg) (bns : s.heap.Ns builtinsNs mb) (bb : ∀ y : Str, y ≠ "__name__" → mb y = bootBuiltins y) (nl : s.heap.NoLimit) (gens : s.gens = #[])
    (ob : s.heap.get? a = some { cls := .type "list", data := .seq vs.toArray }) (hin : IntsAre vs ns) (len : ns.length ≤ sizeLine) (F : ∀ base : Heap, K.In base → base.Ns mainGlobals mg → FnC P w K mg base fa fd [x] sp)
    (bind : ∀ (s : Shared) (u : Value), BindsTo s fd ⟨[u], []⟩ [(x, u)]) (hsp : ∀ H : Hp, SqL K H a (ns.map V.int) → sp [.ref a] H (fun v _ => v = .bl true) fun _ _ _ => False) :
    codeAny (model P w) callerA (.call (.ref fa) ⟨[.ref a], []⟩) (fun r s' => r = .ok (.ret (.bool true)) ∧ OldK s.heap s'.heap ∧ s'.os = s.os ∧ AllBare s'.gens) s := by
  have rel := vals_ints hin
  have step : ∀ H : Hp, (H = (fun _ => none) ∨ (H = oneH a { cls := .type "list", data := .seq vs.toArray } (ns.map V.int) ∧ K.lookup a = none)) → SqL K H a (ns.map V.int) → HOk P w H s.heap →
      codeAny (model P w) callerA (.call (.ref fa) ⟨[.ref a], []⟩) (fun r s' => r = .ok (.ret (.bool true)) ∧ OldK s.heap s'.heap ∧ s'.os = s.os ∧ AllBare s'.gens) s := by
    intro H hH hS hok
    have only : ∀ b u, H b = some u → b = a ∧ u = .frz { cls := .type "list", data := .seq vs.toArray } (.lst (ns.map V.int)) ∧ K.lookup a = none := by
      intro b u e
      rcases hH with z | ⟨z, z2⟩
      · rw [z] at e
        cases e
      · rw [z] at e
        by_cases hb : b = a
        · have e := (if_pos hb).symm.trans e
          cases e
          exact ⟨hb, rfl, z2⟩
        · have e := (if_neg hb).symm.trans e
          cases e
    have free : ∀ {b : Addr} {o : Obj}, s.heap.get? b = some o → (b = a → False) → (hidT s.heap H).get? b = some o := by
      intro b o e n
      refine hidT_get e ?_
      cases q : H b with
      | none => rfl
      | some u => exact (n (only b u q).1).elim
    have nss : ∀ {b : Addr} {m : Str → Option Value}, s.heap.Ns b m → (hidT s.heap H).Ns b m := by
      intro b m ⟨o, es, ep, e, d, r⟩
      refine ⟨o, es, ep, free e fun z => ?_, d, r⟩
      subst z
      rw [ob] at e
      cases e
      cases d
    have kb : K.In (hidT s.heap H) := by
      intro b o e
      refine hidT_get (kx b o e) ?_
      cases q : H b with
      | none => rfl
      | some u =>
        obtain ⟨z1, _, z2⟩ := only b u q
        rw [z1, z2] at e
        cases e
    have md : Mod K mg (hidT s.heap H) := ⟨kb, nss gns, ⟨mb, nss bns, bb⟩, by obtain ⟨mc, h1, h2⟩ := nl; exact ⟨mc, nss h1, h2⟩⟩
    have env : Env0 P w K mg (hidT s.heap H) callerA [] s H := ⟨rfl, md, fun b o e => of_hidT e, Nat.le_of_eq (hidT_size _ _), trivial, (fun b hb => by cases hb), hok, .of_eq gens⟩
    refine codeAny_mono ((F _ kb (nss gns)).go [] s H ⟨[.ref a], []⟩ [.ref a] [.ref a] _ _ env (bind s (.ref a)) (.cons rfl .nil) (hsp H hS)) fun r s' h => ?_
    cases r with
    | error e => exact h.elim
    | ok fl =>
      cases fl with
      | next => exact h.elim
      | brk => exact h.elim
      | cont => exact h.elim
      | ret u =>
        obtain ⟨v, H', o1, o2, un, hok', rv, q⟩ := h
        have q : v = .bl true := q
        subst q
        cases (show u = Value.bool true from rv)
        refine ⟨rfl, OldK.of_keep fun b o e => ?_, o1, o2⟩
        cases q : H b with
        | none => exact un.keep b o e q (fun z => by cases z) (fun z => by cases z)
        | some u =>
          obtain ⟨_, z, _⟩ := only b u q
          subst z
          obtain ⟨e1, _⟩ := hok b _ q
          obtain ⟨e2, _⟩ := hok' b _ (un.frzs b _ _ q)
          rw [e] at e1
          cases e1
          exact e2
  cases hk : K.lookup a with
  | some o =>
    have e := kx a o hk
    rw [ob] at e
    cases e
    refine step (fun _ => none) (.inl rfl) (.inr ⟨_, vs.toArray, _, hk, rfl, rfl, rfl, ?_, by simpa using rel⟩) fun b u z => by cases z
    rw [List.size_toArray, hin.length]
    exact len
  | none =>
    have at_a : oneH a { cls := .type "list", data := .seq vs.toArray } (ns.map V.int) a = some (.frz { cls := .type "list", data := .seq vs.toArray } (.lst (ns.map V.int))) := if_pos rfl
    refine step _ (.inr ⟨rfl, hk⟩) (.inl (.inr ⟨_, at_a⟩)) fun b u z => ?_
    by_cases hb : b = a
    · subst hb
      rw [at_a] at z
      cases z
      exact ⟨ob, by rw [List.length_map]; exact len, vs, _, rel, ob⟩
    · have z := (if_neg hb).symm.trans z
      cases z
theorem walkC {l : PySem.W.OpenLaw} {n : Nat} {q : Program} {loose : List Str} {XP : (Str → Option Value) → Heap → Prop} {YP : World → Heap → Prop} {d : DefRec} {K : Params → PySem.W.Frag} {sp : World → Sp} {x : Str}
    (hn : l.most = some n) (n2 : n ≤ sizeLine) (df : d.params.defaults = []) (hY : ∀ (w : World) (h : Heap), YP w h → (K w.params).In h)
    (F : ∀ (w : World) (mg : Str → Option Value) (fa : Addr) (h : Heap), (K w.params).In h → h.Ns mainGlobals mg → mg d.name = some (.ref fa) →
      ∃ fd : FuncData, (∀ (s : Shared) (u : Value), BindsTo s fd ⟨[u], []⟩ [(x, u)]) ∧ ∀ base : Heap, (K w.params).In base → base.Ns mainGlobals mg → FnC l.prog w (K w.params) mg base fa fd [x] (sp w))
    (hsp : ∀ (w : World) (H : Hp) (a : Addr) (ns : List Int), ns.length ≤ n → SqL (K w.params) H a (ns.map V.int) → sp w [.ref a] H (fun v _ => v = .bl true) fun _ _ _ => False) :
    PySem.W.WalkO q loose XP YP l.row.toRowW d [] (fun f vs => PySem.call f vs) := by
  refine Att.attach_call hn df fun w s₀ s mg mb fa o pm cd doc a vs ns G Y ho hd hcd hmg hobj hints hlen hg => ?_
  have kx := hY w _ Y
  obtain ⟨fd, hb, hF⟩ := F w mg fa _ kx G.T.g hmg
  exact run_law kx G.T.g G.T.b G.T.builtins G.T.nolimit hg hobj hints (Nat.le_trans hlen n2) hF hb fun H hS => hsp w H a ns hlen hS
end UP

set_option Elab.async false
set_option linter.all false
set_option maxRecDepth 100000
set_option maxHeartbeats 4000000
namespace UP
open PySem PySem.Spec PyProof.Rows L2
/-! ### lists or tuples -/
def Sq2 (H : Hp) (a : Addr) (xs : List V) : Prop := H a = some (.lst xs) ∨ H a = some (.tup xs)
theorem Sq2.same {H H' : Hp} {a : Addr} {xs : List V} (s : Same H H') (h : Sq2 H a xs) : Sq2 H' a xs := h.elim (fun z => .inl (s _ _ z)) (fun z => .inr (s _ _ z))
/-- a walk over the items xs, from the heap H on -/
structure Wk (J : It) (H : Hp) (xs : List V) : Prop where
  go : ∀ i H', Same H H' → i < xs.length → J.go i H'
  stop : ∀ H', Same H H' → J.stop xs.length H'
  yld : ∀ i x H' H'', Same H H' → J.yld i H' x H'' → H'' = H' ∧ xs[i]? = some x
theorem wk_list {K : PySem.W.Frag} {H : Hp} {a : Addr} {xs : List V} (h : H a = some (.lst xs)) : Wk (Itl K a) H xs :=
  ⟨fun i H' s hi => ⟨xs, xs[i], .of (s _ _ h), List.getElem?_eq_getElem hi⟩, fun H' s => ⟨xs, .of (s _ _ h), Nat.le_refl _⟩, fun i x H' H'' s y => ⟨y.1, y.2 xs (.of (s _ _ h))⟩⟩
theorem wk_tup {K : PySem.W.Frag} {H : Hp} {a : Addr} {xs : List V} (h : H a = some (.tup xs)) : Wk (Itt K a) H xs :=
  ⟨fun i H' s hi => ⟨xs, xs[i], .of (s _ _ h), List.getElem?_eq_getElem hi⟩, fun H' s => ⟨xs, .of (s _ _ h), Nat.le_refl _⟩, fun i x H' H'' s y => ⟨y.1, y.2 xs (.of (s _ _ h))⟩⟩
def iSeqV (i : Nat) : TI := fun σ H R => ∃ a xs, σ[i]? = some (some (.ref a)) ∧ Sq2 H a xs ∧ ∀ J, Wk J H xs → R J H
section
variable {X : Cx}
theorem pi_seqV (i : Nat) {x : Str} {pos : Pos} {tg : Expr} (hN : X.N[i]? = some x := by rfl) (hv : Vis X.env.scope x := by first | exact Or.inl rfl | exact Or.inr (Or.inl rfl) | exact Or.inr (Or.inr rfl)) (hd : (x == ("__debug__" : Str)) = false := by decide)
    (hc : (x == ("__classdict__" : Str)) = false := by decide) : PI X tg (.Name x pos) (iSeqV i) := by
  refine ⟨fun pins s σ H R I hw => ?_⟩
  obtain ⟨a, xs, e, h, k⟩ := hw
  rcases h with h | h
  · exact (pi_list (pe_var hN hv hd hc)).run pins s σ H R I ⟨_, e, a, rfl, ⟨xs, .of h⟩, k _ (wk_list h)⟩
  · exact (pi_tup (pe_var hN hv hd hc)).run pins s σ H R I ⟨_, e, a, rfl, ⟨xs, .of h⟩, k _ (wk_tup h)⟩
def gAny (n : Nat) (t : TGs) : TG := fun v σ H Q => ∃ a xs, v = .ref a ∧ Sq2 H a xs ∧ xs.length = n ∧ t xs σ H Q
theorem pg_any {es : List Expr} {k n : Nat} {t : TGs} {pos : Pos} (hc : X.calm = true) (h : PGs X es t) (hn : (assignEach es X.env).length = n := by rfl) (hst : (assignEach es X.env).findIdx? (fun z => z.1) = none := by rfl) : PG X (.Tuple es k pos) (gAny n t) := by
  refine ⟨fun pins s σ H v u Q I r hw => ?_⟩
  obtain ⟨a, xs, e, hx, hl, hw⟩ := hw
  rcases hx with z | z
  · exact (pg_unl hc h hn hst).run pins s σ H v u Q I r ⟨a, xs, e, .of z, hl, hw⟩
  · exact (pg_tup hc h hn hst).run pins s σ H v u Q I r ⟨a, xs, e, .of z, hl, hw⟩
/-- zip(x, x[1:]) -/
structure WkZ (J : It) (H : Hp) (xs : List V) : Prop where
  go : ∀ i H', Same H H' → i + 1 < xs.length → J.go i H'
  stop : ∀ H', Same H H' → J.stop (xs.length - 1) H'
  yld : ∀ i x H' H'', Same H H' → J.yld i H' x H'' → ∃ T x1 x2, x = .ref T ∧ H' T = none ∧ H'' = upd H' T (.tup [x1, x2]) ∧ xs[i]? = some x1 ∧ (i + 1 < xs.length → xs[i + 1]? = some x2)
def iZip1 (i : Nat) : TI := fun σ H R => ∃ a xs, σ[i]? = some (some (.ref a)) ∧ Sq2 H a xs ∧ ∀ J H', Same H H' → WkZ J H' xs → R J H'
theorem cutt_one (xs : List V) : cutV xs (some 1) none = xs.drop 1 := by
  have e : HT.sIx xs.length 0 (some 1) = min 1 xs.length := HT.sIx_nat xs.length 0 1
  unfold cutV
  rw [e, HT.sIx_none]
  cases xs with
  | nil => rfl
  | cons x r =>
    have e1 : min 1 (x :: r).length = 1 := by simp only [List.length_cons]; omega
    rw [e1]
    simp
theorem pi_zip1 {i : Nat} {tg it : Expr} {tl th : TO} (h : PI X tg it (RZ.iZipA X.K (tCons (tVar i) (tCons (tSl (fun x lo hi H Q => rSlL X.K x lo hi H Q ∨ rSlA X.K x lo hi H Q) (tVar i) tl th) tNil))))
    (h1 : ∀ (σ : L2.St) (H : Hp) (Q : Option Int → Hp → Prop), Q (some 1) H → tl σ H Q) (h2 : ∀ (σ : L2.St) (H : Hp) (Q : Option Int → Hp → Prop), Q none H → th σ H Q) : PI X tg it (iZip1 i) := by
  refine ⟨fun pins s σ H R I hw => h.run pins s σ H R I ?_⟩
  obtain ⟨a, xs, e, hx, k⟩ := hw
  refine ⟨_, e, _, e, h1 σ H _ (h2 σ H _ ?_)⟩
  have gn : ∀ j : Nat, (xs.drop 1)[j]? = xs[j + 1]? := fun j => by rw [List.getElem?_drop, Nat.add_comm 1 j]
  rcases hx with hx | hx
  · refine .inl ⟨a, xs, rfl, .of hx, fun c nc => ?_⟩
    have sc : Same H (upd H c (.lst (cutV xs (some 1) none))) := fun b o z => by rw [upd_ne (ne_of_none z nc)]; exact z
    have hc : (upd H c (.lst (cutV xs (some 1) none))) c = some (.lst (xs.drop 1)) := by rw [upd_same, cutt_one]
    refine ⟨a, c, xs, xs.drop 1, rfl, .inl ⟨.of (sc _ _ hx), .of hc, k _ _ sc ⟨fun j H' sj hj => ?_, fun H' sj => ?_, fun j x H' H'' sj y => ?_⟩⟩⟩
    · exact ⟨xs, xs.drop 1, xs[j], xs[j + 1], .of (sj _ _ (sc _ _ hx)), .of (sj _ _ hc), List.getElem?_eq_getElem (by omega), by rw [gn]; exact List.getElem?_eq_getElem hj⟩
    · exact ⟨xs, xs.drop 1, .of (sj _ _ (sc _ _ hx)), .of (sj _ _ hc), .inr (by rw [List.length_drop]; exact Nat.le_refl _)⟩
    · obtain ⟨T, x1, x2, e1, e2, e3, f1, f2⟩ := y
      exact ⟨T, x1, x2, e1, e2, e3, f1 xs (.of (sj _ _ (sc _ _ hx))), fun _ => by rw [← gn]; exact f2 _ (.of (sj _ _ hc))⟩
  · refine .inr ⟨a, xs, rfl, .of hx, fun z => ?_, fun z c nc => ?_⟩
    · have lz : xs.length = 0 := by
        have z1 := z.1
        rw [show HT.sIx xs.length 0 (some 1) = min 1 xs.length from HT.sIx_nat xs.length 0 1] at z1
        omega
      refine ⟨a, a, xs, xs, rfl, .inr ⟨.of hx, .of hx, k _ _ (Same.refl _) ⟨fun j H' sj hj => by omega, fun H' sj => ⟨xs, xs, .of (sj _ _ hx), .of (sj _ _ hx), .inl (by omega)⟩, fun j x H' H'' sj y => ?_⟩⟩⟩
      obtain ⟨T, x1, x2, e1, e2, e3, f1, f2⟩ := y
      exact ⟨T, x1, x2, e1, e2, e3, f1 xs (.of (sj _ _ hx)), fun hj => by omega⟩
    · have sc : Same H (upd H c (.tup (cutV xs (some 1) none))) := fun b o z => by rw [upd_ne (ne_of_none z nc)]; exact z
      have hc : (upd H c (.tup (cutV xs (some 1) none))) c = some (.tup (xs.drop 1)) := by rw [upd_same, cutt_one]
      refine ⟨a, c, xs, xs.drop 1, rfl, .inr ⟨.of (sc _ _ hx), .of hc, k _ _ sc ⟨fun j H' sj hj => ?_, fun H' sj => ?_, fun j x H' H'' sj y => ?_⟩⟩⟩
      · exact ⟨xs, xs.drop 1, xs[j], xs[j + 1], .of (sj _ _ (sc _ _ hx)), .of (sj _ _ hc), List.getElem?_eq_getElem (by omega), by rw [gn]; exact List.getElem?_eq_getElem hj⟩
      · exact ⟨xs, xs.drop 1, .of (sj _ _ (sc _ _ hx)), .of (sj _ _ hc), .inr (by rw [List.length_drop]; exact Nat.le_refl _)⟩
      · obtain ⟨T, x1, x2, e1, e2, e3, f1, f2⟩ := y
        exact ⟨T, x1, x2, e1, e2, e3, f1 xs (.of (sj _ _ (sc _ _ hx))), fun _ => by rw [← gn]; exact f2 _ (.of (sj _ _ hc))⟩
end
/-! ### runs and states, dressed -/
def RunG (H : Hp) (v : V) (r : Run) : Prop := ∃ t, v = .ref t ∧ Sq2 H t [.str r.1, .int r.2]
def RunsG (H : Hp) (v : V) (rs : List Run) : Prop := ∃ a xs, v = .ref a ∧ Sq2 H a xs ∧ Paired (RunG H) xs rs
def StG (H : Hp) (v : V) : Option Run → Prop
  | none => v = .non
  | some r => RunG H v r
theorem RunG.same {H H' : Hp} {v : V} {r : Run} (s : Same H H') (h : RunG H v r) : RunG H' v r := by
  obtain ⟨t, e, h⟩ := h
  exact ⟨t, e, h.same s⟩
theorem RunsG.same {H H' : Hp} {v : V} {rs : List Run} (s : Same H H') (h : RunsG H v rs) : RunsG H' v rs := by
  obtain ⟨a, xs, e, hx, p⟩ := h
  exact ⟨a, xs, e, hx.same s, Paired.imp (fun _ _ => RunG.same s) p⟩
theorem StG.same {H H' : Hp} {v : V} {st : Option Run} (s : Same H H') (h : StG H v st) : StG H' v st := by
  cases st with
  | none => exact h
  | some r => exact RunG.same s h
theorem RunV.dress {H : Hp} {v : V} {r : Run} (h : RunV H v r) : RunG H v r := by
  obtain ⟨t, e, h⟩ := h
  exact ⟨t, e, .inr h⟩
theorem Runs.dress {H : Hp} {a : Addr} {rs : List Run} (h : Runs H a rs) : RunsG H (.ref a) rs := by
  obtain ⟨xs, hx, p⟩ := h
  exact ⟨a, xs, rfl, .inl hx, Paired.imp (fun _ _ => RunV.dress) p⟩
theorem StV.dress {H : Hp} {v : V} {st : Option Run} (h : StV H v st) : StG H v st := by
  cases st with
  | none => exact h
  | some r => exact RunV.dress h
theorem Sq2.but {H H' : Hp} {sp a : Addr} {xs : List V} (z : Spr H sp) (s : But sp H H') (h : Sq2 H a xs) (n : ∀ d e f, xs ≠ [.int d, .int e, .int f]) : Sq2 H' a xs := by
  obtain ⟨d, e, f, hs, _⟩ := z
  rcases h with h | h
  · exact .inl (s _ _ (ne_of h hs fun q => n d e f (HO.lst.inj q)) h)
  · exact .inr (s _ _ (ne_of h hs fun q => by cases q) h)
theorem RunG.but {H H' : Hp} {sp : Addr} {v : V} {r : Run} (z : Spr H sp) (s : But sp H H') (h : RunG H v r) : RunG H' v r := by
  obtain ⟨t, e, h⟩ := h
  exact ⟨t, e, h.but z s fun _ _ _ q => by cases q⟩
theorem RunsG.but {H H' : Hp} {sp : Addr} {v : V} {rs : List Run} (z : Spr H sp) (s : But sp H H') (h : RunsG H v rs) : RunsG H' v rs := by
  obtain ⟨a, xs, e, hx, p⟩ := h
  refine ⟨a, xs, e, hx.but z s fun d _ _ q => ?_, Paired.imp (fun _ _ => RunG.but z s) p⟩
  subst q
  cases p with
  | cons h _ =>
    obtain ⟨_, e, _⟩ := h
    cases e
theorem StG.but {H H' : Hp} {sp : Addr} {v : V} {st : Option Run} (z : Spr H sp) (s : But sp H H') (h : StG H v st) : StG H' v st := by
  cases st with
  | none => exact h
  | some r => exact RunG.but z s h
end UP

set_option Elab.async false
set_option linter.all false
set_option maxRecDepth 100000
set_option maxHeartbeats 4000000
namespace UP
open PySem PySem.Spec PyProof.Rows L2
def topS (i : Nat) : Stmt := PySem.Challenge.pw_unlikepairs_k20_effect_errors.main.body.getD i (.Pass ⟨0, 0, 0, 0⟩)
structure Tx (mg : Str → Option Value) : Prop where
  n_isinstance : mg "isinstance" = none
  n_int : mg "int" = none
  n_bool : mg "bool" = none
  n_str : mg "str" = none
  n_list : mg "list" = none
  n_tuple : mg "tuple" = none
  n_len : mg "len" = none
  n_all : mg "all" = none
  n_zip : mg "zip" = none
  n_sum : mg "sum" = none
  n_min : mg "min" = none
  n_max : mg "max" = none
  n_abs : mg "abs" = none
  n_range : mg "range" = none
  n_repr : mg "repr" = none
  n_enumerate : mg "enumerate" = none
  n_any : mg "any" = none
  n_dict : mg "dict" = none
  n_sorted : mg "sorted" = none
  n_set : mg "set" = none
  n_reversed : mg "reversed" = none
  n_ValueError : mg "ValueError" = none
  s_LETTERS : ∃ t, mg "LETTERS" = some (.str "abcdefghijklmnopqrstuvwxyz" t)
  c_MAX_LETTERS : ∃ t, mg "MAX_LETTERS" = some (.int 8 t)
  c_MAX_RUNS : ∃ t, mg "MAX_RUNS" = some (.int 400 t)
  c_MAX_ITEMS : ∃ t, mg "MAX_ITEMS" = some (.int 400 t)
  c_MAX_KINDS : ∃ t, mg "MAX_KINDS" = some (.int 12 t)
  c_MAX_COUNT : ∃ t, mg "MAX_COUNT" = some (.int 1000000000000000000000000000000 t)
  c_MAX_EFFECTS : ∃ t, mg "MAX_EFFECTS" = some (.int 401 t)
section
variable {P : Program} {w : World} {K : PySem.W.Frag} {mg : Str → Option Value} {base : Heap}
/-! is_whole: slots 0:value -/
abbrev s_is_whole : Stmt := topS 27
theorem sc_is_whole : FnScope ["value"] ["value"] (defScope s_is_whole) := ⟨rfl, rfl, rfl, by decide +kernel, rfl, by decide +kernel, by decide +kernel⟩
def sp_is_whole : Sp := fun vs H Q _ => ∃ n : Int, vs = [.int n] ∧ Q (.bl true) H
theorem ok_is_whole (D : Df K mg "is_whole" s_is_whole) (T : Tx mg) : Has P w K mg base 1 "is_whole" ["value"] sp_is_whole := by
  refine has_of D sc_is_whole (fun _ _ _ _ _ _ us hl => match us, hl with | [_], _ => rfl) (fun vs H Q E h => ?_) (fun f cdv A outer s H vs Q E hr h => ?_)
  · obtain ⟨n, rfl, _⟩ := h
    rfl
  · obtain ⟨n, rfl, q⟩ := h
    refine ⟨_, (pss_one (ps_ret (pe_and (pe_callB call_isi (by rfl) T.n_isinstance (by decide +kernel) (pa_cons (pv 0) (pa_cons (pe_bltn (v := .ty "int") (by rfl) T.n_int (by decide +kernel) rfl) pa_nil))) (pe_one (pe_not (pe_callB call_isi (by rfl) T.n_isinstance (by decide +kernel) (pa_cons (pv 0) (pa_cons (pe_bltn (v := .ty "bool") (by rfl) T.n_bool (by decide +kernel) rfl) pa_nil)))))))), ?_⟩
    exact ⟨_, rfl, _, _, _, _, true, rfl, .ty "int", .base (.int n), kit_ty (by decide +kernel), true, rfl, iteT ⟨_, rfl, _, _, _, _, false, rfl, .ty "bool", .base (.int n), kit_ty (by decide +kernel), false, rfl, q⟩⟩
/-! is_within: slots 0:value 1:low 2:high -/
abbrev s_is_within : Stmt := topS 28
theorem sc_is_within : FnScope ["value", "low", "high"] ["value", "low", "high"] (defScope s_is_within) := ⟨rfl, rfl, rfl, by decide +kernel, rfl, by decide +kernel, by decide +kernel⟩
def sp_is_within : Sp := fun vs H Q _ => ∃ n lo hi : Int, vs = [.int n, .int lo, .int hi] ∧ Q (.bl (decide (lo ≤ n ∧ n ≤ hi))) H
theorem ok_is_within (D : Df K mg "is_within" s_is_within) (G_is_whole : Has P w K mg base 1 "is_whole" ["value"] sp_is_whole) : Has P w K mg base 2 "is_within" ["value", "low", "high"] sp_is_within := by
  refine has_of D sc_is_within (fun _ _ _ _ _ _ us hl => match us, hl with | [_, _, _], _ => rfl) (fun vs H Q E h => ?_) (fun f cdv A outer s H vs Q E hr h => ?_)
  · obtain ⟨n, lo, hi, rfl, _⟩ := h
    rfl
  · obtain ⟨n, lo, hi, rfl, q⟩ := h
    refine ⟨_, (pss_one (ps_ret (pe_and (pe_callH G_is_whole (hr.mono (by omega)) (by rfl) (pa_cons (pv 0) pa_nil)) (pe_one (pe_chain op_le op_le (pv 1) (pv 0) (pv 2)))))), ?_⟩
    refine ⟨_, rfl, n, rfl, true, rfl, iteT ⟨_, rfl, _, rfl, _, _, rfl, rfl, _, rfl, ite2 (fun e => ?_) (fun e => ?_)⟩⟩
    · have e := of_decide_eq_true e
      refine ⟨_, rfl, _, _, rfl, rfl, ?_⟩
      show Q (.bl (decide (n ≤ hi))) H
      rw [show decide (n ≤ hi) = decide (lo ≤ n ∧ n ≤ hi) by simp [e]]
      exact q
    · have e : ¬ lo ≤ n := fun z => e (decide_eq_true z)
      show Q (.bl false) H
      rw [show false = decide (lo ≤ n ∧ n ≤ hi) by simp [e]]
      exact q
theorem kit_lst {K : PySem.W.Frag} : PySem.W.kitAny K (.type "list") [.type "list", .type "tuple"] = some true := kitAny_cons (b := true) (kit_ty (by decide +kernel)) (fun z => nomatch z) (fun _ => rfl)
theorem kit_tup {K : PySem.W.Frag} : PySem.W.kitAny K (.type "tuple") [.type "list", .type "tuple"] = some true := kitAny_cons (b := false) (kit_ty (by decide +kernel)) (fun _ => kitAny_cons (b := true) (kit_ty (by decide +kernel)) (fun z => nomatch z) (fun _ => rfl)) (fun z => nomatch z)
/-! is_listed: slots 0:value 1:most -/
abbrev s_is_listed : Stmt := topS 29
theorem sc_is_listed : FnScope ["value", "most"] ["value", "most"] (defScope s_is_listed) := ⟨rfl, rfl, rfl, by decide +kernel, rfl, by decide +kernel, by decide +kernel⟩
def sp_is_listed : Sp := fun vs H Q _ => ∃ (a : Addr) (xs : List V) (m : Int), vs = [.ref a, .int m] ∧ Sq2 H a xs ∧ ∀ H', Same H H' → Q (.bl (decide ((xs.length : Int) ≤ m))) H'
theorem ok_is_listed (D : Df K mg "is_listed" s_is_listed) (T : Tx mg) : Has P w K mg base 1 "is_listed" ["value", "most"] sp_is_listed := by
  refine has_of D sc_is_listed (fun _ _ _ _ _ _ us hl => match us, hl with | [_, _], _ => rfl) (fun vs H Q E h => ?_) (fun f cdv A outer s H vs Q E hr h => ?_)
  · obtain ⟨a, xs, m, rfl, _⟩ := h
    rfl
  · obtain ⟨a, xs, m, rfl, hx, q⟩ := h
    refine ⟨_, (pss_one (ps_ret (pe_and (pe_callB call_isiT (by rfl) T.n_isinstance (by decide +kernel) (pa_cons (pv 0) (pa_cons (pe_tup (pa_cons (pe_bltn (v := .ty "list") (by rfl) T.n_list (by decide +kernel) rfl) (pa_cons (pe_bltn (v := .ty "tuple") (by rfl) T.n_tuple (by decide +kernel) rfl) pa_nil))) pa_nil))) (pe_one (pe_cmpR op_le (pe_callB call_len_seq (by rfl) T.n_len (by decide +kernel) (pa_cons (pv 0) pa_nil)) (pv 1) (nomark _)))))), ?_⟩
    refine ⟨_, rfl, (by show 2 ≤ sizeLine; decide), fun t nt => ?_⟩
    rcases hx with hx | hx
    · refine ⟨_, t, _, _, _, true, rfl, upd_same, .cons (.ty "list") (.cons (.ty "tuple") .nil), .base (.lst (same_upd nt _ _ hx)), kit_lst, true, rfl, iteT ?_⟩
      exact ⟨_, rfl, _, _, rfl, .inl (.of (same_upd nt _ _ hx)), _, rfl, _, _, rfl, rfl, q _ (same_upd nt)⟩
    · refine ⟨_, t, _, _, _, true, rfl, upd_same, .cons (.ty "list") (.cons (.ty "tuple") .nil), .base (.tup (same_upd nt _ _ hx)), kit_tup, true, rfl, iteT ?_⟩
      exact ⟨_, rfl, _, _, rfl, .inr (.of (same_upd nt _ _ hx)), _, rfl, _, _, rfl, rfl, q _ (same_upd nt)⟩
/-! is_couple: slots 0:value -/
abbrev s_is_couple : Stmt := topS 30
theorem sc_is_couple : FnScope ["value"] ["value"] (defScope s_is_couple) := ⟨rfl, rfl, rfl, by decide +kernel, rfl, by decide +kernel, by decide +kernel⟩
def sp_is_couple : Sp := fun vs H Q _ => ∃ (a : Addr) (xs : List V), vs = [.ref a] ∧ Sq2 H a xs ∧ xs.length = 2 ∧ ∀ H', Same H H' → Q (.bl true) H'
theorem ok_is_couple (D : Df K mg "is_couple" s_is_couple) (T : Tx mg) : Has P w K mg base 1 "is_couple" ["value"] sp_is_couple := by
  refine has_of D sc_is_couple (fun _ _ _ _ _ _ us hl => match us, hl with | [_], _ => rfl) (fun vs H Q E h => ?_) (fun f cdv A outer s H vs Q E hr h => ?_)
  · obtain ⟨a, xs, rfl, _⟩ := h
    rfl
  · obtain ⟨a, xs, rfl, hx, hl, q⟩ := h
    refine ⟨_, (pss_one (ps_ret (pe_and (pe_callB call_isiT (by rfl) T.n_isinstance (by decide +kernel) (pa_cons (pv 0) (pa_cons (pe_tup (pa_cons (pe_bltn (v := .ty "list") (by rfl) T.n_list (by decide +kernel) rfl) (pa_cons (pe_bltn (v := .ty "tuple") (by rfl) T.n_tuple (by decide +kernel) rfl) pa_nil))) pa_nil))) (pe_one (pe_cmpR op_eq (pe_callB call_len_seq (by rfl) T.n_len (by decide +kernel) (pa_cons (pv 0) pa_nil)) pe_int (nomark _)))))), ?_⟩
    refine ⟨_, rfl, (by show 2 ≤ sizeLine; decide), fun t nt => ?_⟩
    rcases hx with hx | hx
    · refine ⟨_, t, _, _, _, true, rfl, upd_same, .cons (.ty "list") (.cons (.ty "tuple") .nil), .base (.lst (same_upd nt _ _ hx)), kit_lst, true, rfl, iteT ⟨_, rfl, _, _, rfl, .inl (.of (same_upd nt _ _ hx)), rfl, ?_⟩⟩
      rw [hl]
      exact q _ (same_upd nt)
    · refine ⟨_, t, _, _, _, true, rfl, upd_same, .cons (.ty "list") (.cons (.ty "tuple") .nil), .base (.tup (same_upd nt _ _ hx)), kit_tup, true, rfl, iteT ⟨_, rfl, _, _, rfl, .inr (.of (same_upd nt _ _ hx)), rfl, ?_⟩⟩
      rw [hl]
      exact q _ (same_upd nt)
end
end UP

set_option Elab.async false
set_option linter.all false
set_option maxRecDepth 100000
set_option maxHeartbeats 4000000
namespace UP
open PySem PySem.Spec PyProof.Rows L2
theorem iteP {b : Bool} {A B : Prop} (h : b = true) (x : A) : if b = true then A else B := by
  rw [if_pos h]
  exact x
theorem iteN {b : Bool} {A B : Prop} (h : b = false) (x : B) : if b = true then A else B := by
  rw [if_neg (by rw [h]; decide)]
  exact x
theorem yesT {σ : L2.St} {H : Hp} {A B : Hp → Prop} (h : A H) : tYes σ H (fun b H3 => if b = true then A H3 else B H3) := by
  show (if true = true then A H else B H)
  exact iteT h
theorem lc_gen {J : It} {n : Nat} {g : TG} {tt : TT} {te : TE} {vs : List Nat} {σ : L2.St} {H1 : Hp} {D : Addr} {Qd : Hp → Prop} (Pv : Nat → Hp → Prop) (h0 : Pv 0 (upd H1 D (.lst [])))
    (hg : ∀ i H, i < n → Pv i H → J.go i H) (hst : ∀ H, Pv n H → J.stop n H)
    (hs : ∀ i x H H', i < n → Pv i H → J.yld i H x H' → g x (wipe σ vs) H' fun σ2 H2 => wipe σ2 vs = wipe σ vs ∧ tt σ2 H2 fun b H3 =>
      if b = true then te σ2 H3 fun y H4 => ∃ acc, H4 D = some (.lst acc) ∧ acc.length < sizeLine ∧ Pv (i + 1) (upd H4 D (.lst (acc ++ [y]))) else Pv (i + 1) H3) (hd : ∀ H, Pv n H → Qd H) :
    ∃ W : Nat → Nat → Hp → Prop, (∃ m, W 0 m (upd H1 D (.lst []))) ∧ ∀ i m H, W i m H →
      (J.stop i H ∧ Qd H) ∨ (J.go i H ∧ ∃ Nx : Hp → Prop, (∀ H', Nx H' → ∃ m', m' < m ∧ W (i + 1) m' H') ∧ ∀ x H', J.yld i H x H' → g x (wipe σ vs) H' fun σ2 H2 => wipe σ2 vs = wipe σ vs ∧ tt σ2 H2 fun b H3 =>
        if b = true then te σ2 H3 fun y H4 => ∃ acc, H4 D = some (.lst acc) ∧ acc.length < sizeLine ∧ Nx (upd H4 D (.lst (acc ++ [y]))) else Nx H3) := by
  refine ⟨fun i m H => m = n - i ∧ i ≤ n ∧ Pv i H, ⟨n, by simp, Nat.zero_le _, h0⟩, ?_⟩
  rintro i m H ⟨rfl, hi, p⟩
  by_cases hlt : i < n
  · exact .inr ⟨hg i H hlt p, Pv (i + 1), fun H' p' => ⟨n - (i + 1), by omega, rfl, hlt, p'⟩, fun x H' y => hs i x H H' hlt p y⟩
  · have e : i = n := by omega
    subst e
    exact .inl ⟨hst H p, hd H p⟩
section
variable {X : Cx} {K : PySem.W.Frag}
theorem ix_tupK (h : X.K = K) : IxR X (rIxT K) := h ▸ ix_tup
theorem ix_listK (h : X.K = K) : IxR X (rIxL K) := h ▸ ix_list
theorem pg_tupK {es : List Expr} {k : Nat} {t : TGs} {n : Nat} {pos : Pos} (h : X.K = K) (hc : X.calm = true) (hp : PGs X es t)
    (hn : (assignEach es X.env).length = n := by rfl) (hst : (assignEach es X.env).findIdx? (fun z => z.1) = none := by rfl) : PG X (.Tuple es k pos) (gTup K n t) := by
  subst h
  exact pg_tup hc hp hn hst
theorem call_len_seqK (h : X.K = K) : CallR X (.builtin "len") (fun xs H Q => ∃ p ys, xs = [.ref p] ∧ (SqL K H p ys ∨ SqT K H p ys) ∧ Q (.int ys.length) H) := by
  subst h
  exact call_len_seq
end
theorem ix_seqK {X : Cx} {K : PySem.W.Frag} (h : X.K = K) : IxR X (rIx K) := h ▸ ix_seq
/-! ### lists that grow -/
theorem same_grow {H H4 : Hp} {D : Addr} {o : HO} (n : H D = none) (s : Same H H4) : Same H (upd H4 D o) := fun b x e => by
  rw [upd_ne (ne_of_none e n)]
  exact s b x e
theorem RunV.grow {H : Hp} {D : Addr} {acc acc' : List V} {v : V} {r : Run} (hD : H D = some (.lst acc)) (h : RunV H v r) : RunV (upd H D (.lst acc')) v r := by
  obtain ⟨t, e, h⟩ := h
  refine ⟨t, e, ?_⟩
  rw [upd_ne (ne_of h hD (by intro q; cases q))]
  exact h
theorem prs_grow {H : Hp} {D : Addr} {acc acc' : List V} {xs : List V} {rs : List Run} (hD : H D = some (.lst acc)) (h : Paired (RunV H) xs rs) : Paired (RunV (upd H D (.lst acc'))) xs rs := Paired.imp (fun _ _ => RunV.grow hD) h
theorem prs_same {H H' : Hp} {xs : List V} {rs : List Run} (s : Same H H') (h : Paired (RunV H) xs rs) : Paired (RunV H') xs rs := Paired.imp (fun _ _ => RunV.same s) h
theorem take_snoc {α : Type} {l : List α} {i : Nat} {x : α} (h : l[i]? = some x) : l.take (i + 1) = l.take i ++ [x] := by
  rw [List.take_add_one, h]
  rfl
theorem lc_wk {J : It} {H0 H1 : Hp} {xs : List V} {g : TG} {tt : TT} {te : TE} {vs : List Nat} {σ : L2.St} {D : Addr} {Qd : Hp → Prop} (wk : Wk J H0 xs) (Pv : Nat → Hp → Prop) (hsm : ∀ i H, Pv i H → Same H0 H) (h0 : Pv 0 (upd H1 D (.lst [])))
    (hs : ∀ i x H, xs[i]? = some x → Pv i H → g x (wipe σ vs) H fun σ2 H2 => wipe σ2 vs = wipe σ vs ∧ tt σ2 H2 fun b H3 =>
      if b = true then te σ2 H3 fun y H4 => ∃ acc, H4 D = some (.lst acc) ∧ acc.length < sizeLine ∧ Pv (i + 1) (upd H4 D (.lst (acc ++ [y]))) else Pv (i + 1) H3) (hd : ∀ H, Pv xs.length H → Qd H) :
    ∃ W : Nat → Nat → Hp → Prop, (∃ m, W 0 m (upd H1 D (.lst []))) ∧ ∀ i m H, W i m H →
      (J.stop i H ∧ Qd H) ∨ (J.go i H ∧ ∃ Nx : Hp → Prop, (∀ H', Nx H' → ∃ m', m' < m ∧ W (i + 1) m' H') ∧ ∀ x H', J.yld i H x H' → g x (wipe σ vs) H' fun σ2 H2 => wipe σ2 vs = wipe σ vs ∧ tt σ2 H2 fun b H3 =>
        if b = true then te σ2 H3 fun y H4 => ∃ acc, H4 D = some (.lst acc) ∧ acc.length < sizeLine ∧ Nx (upd H4 D (.lst (acc ++ [y]))) else Nx H3) := by
  refine lc_gen Pv h0 (fun i H hi p => wk.go i H (hsm i H p) hi) (fun H p => wk.stop H (hsm _ H p)) (fun i x H H' hi p y => ?_) hd
  obtain ⟨e, ex⟩ := wk.yld i x H H' (hsm i H p) y
  subst e
  exact hs i x _ ex p
theorem for_wk {J : It} {H0 H : Hp} {xs : List V} {g : TG} {tb : TS} {D : Ends} {σ : L2.St} (wk : Wk J H0 xs) (Pv : Nat → L2.St → Hp → Prop) (hsm : ∀ i σ H, Pv i σ H → Same H0 H) (h0 : Pv 0 σ H)
    (hs : ∀ i x σ H, xs[i]? = some x → Pv i σ H → g x σ H fun σ2 H2 => tb { D with nx := Pv (i + 1), ct := Pv (i + 1), bk := D.nx } σ2 H2) (hd : ∀ σ H, Pv xs.length σ H → D.nx σ H) :
    ∃ W : Nat → Nat → L2.St → Hp → Prop, (∃ m, W 0 m σ H) ∧ ∀ i m σ H, W i m σ H →
      (J.stop i H ∧ D.nx σ H) ∨ (J.go i H ∧ ∃ N : L2.St → Hp → Prop, (∀ σ' H', N σ' H' → ∃ m', m' < m ∧ W (i + 1) m' σ' H') ∧ ∀ x H', J.yld i H x H' → g x σ H' fun σ2 H2 => tb { D with nx := N, ct := N, bk := D.nx } σ2 H2) := by
  refine ⟨fun i m σ H => m = xs.length - i ∧ i ≤ xs.length ∧ Pv i σ H, ⟨xs.length, by omega, Nat.zero_le _, h0⟩, ?_⟩
  rintro i m σ H ⟨rfl, hi, p⟩
  by_cases hlt : i < xs.length
  · refine Or.inr ⟨wk.go i H (hsm i σ H p) hlt, Pv (i + 1), fun σ' H' p' => ⟨xs.length - (i + 1), by omega, rfl, hlt, p'⟩, fun x H' y => ?_⟩
    obtain ⟨e, ex⟩ := wk.yld i x H H' (hsm i σ H p) y
    subst e
    exact hs i x σ _ ex p
  · have e : i = xs.length := by omega
    subst e
    exact Or.inl ⟨wk.stop H (hsm _ σ H p), hd σ H p⟩
section
variable {P : Program} {w : World} {K : PySem.W.Frag} {mg : Str → Option Value} {base : Heap}
theorem lex1 {c d : Nat} : (!decide (([c] : List Nat) < [d])) = decide (d ≤ c) := by
  have e : (([c] : List Nat) < [d]) ↔ c < d := by
    rw [List.cons_lt_cons_iff]
    simp
  by_cases h : c < d
  · rw [decide_eq_true (e.mpr h), decide_eq_false (by omega)]
    rfl
  · rw [decide_eq_false (fun z => h (e.mp z)), decide_eq_true (by omega)]
    rfl
/-! is_kind: slots 0:value 1:letter -/
abbrev s_is_kind : Stmt := topS 31
theorem sc_is_kind : FnScope ["value", "letter"] ["value"] (defScope s_is_kind) := ⟨rfl, rfl, rfl, by decide +kernel, rfl, by decide +kernel, by decide +kernel⟩
def sp_is_kind : Sp := fun vs H Q _ => ∃ z : Str, vs = [.str z] ∧ KindOk z ∧ ∀ H', Same H H' → Q (.bl true) H'
theorem ok_is_kind (D : Df K mg "is_kind" s_is_kind) (T : Tx mg) : Has P w K mg base 1 "is_kind" ["value"] sp_is_kind := by
  refine has_of D sc_is_kind (fun _ _ _ _ _ _ us hl => match us, hl with | [_], _ => rfl) (fun vs H Q E h => ?_) (fun f cdv A outer s H vs Q E hr h => ?_)
  · obtain ⟨n, rfl, _⟩ := h
    rfl
  · obtain ⟨z, rfl, ⟨k1, k2, k3⟩, q⟩ := h
    refine ⟨_, (pss_cons (ps_if (PW.pt (pw_or (pt_not (pt_val (pe_callB call_isi (by rfl) T.n_isinstance (by decide +kernel) (pa_cons (pv 0) (pa_cons (pe_bltn (v := .ty "str") (by rfl) T.n_str (by decide +kernel) rfl) pa_nil))))) (pw_or1 (pt_not (pt_chain op_le op_le pe_int (pe_callB call_len_str (by rfl) T.n_len (by decide +kernel) (pa_cons (pv 0) pa_nil)) (pe_glI T.c_MAX_LETTERS (by rfl))))))) (pss_one (ps_ret pe_bl)) pss_nil)
    (pss_one (ps_ret (pe_callB (cr_all rfl) (by rfl) T.n_all (by decide +kernel) (pa_cons (pe_lc (own := [("letter", 1)]) rfl sc_is_kind.nd (pi_str (pv 0)) (blkOk_by (N := ["value", "letter"]) (sc := defScope s_is_kind) (by decide +kernel)) (fun _ _ _ _ _ => (pg_name (i := 1) sc_is_kind.nd rfl (by first | exact Or.inl rfl | exact Or.inr rfl))) (fun _ _ _ _ _ => pts_nil) (fun _ _ _ _ _ => (pe_chain op_le_str op_le_str pe_str (pv 1) pe_str))) pa_nil))))), ?_⟩
    refine ⟨_, rfl, _, _, _, _, true, rfl, .ty "str", .base (.str z), kit_ty (by decide +kernel), true, rfl, iteF ?_⟩
    refine ⟨_, rfl, z, rfl, smallE (by omega), _, _, rfl, rfl, _, rfl, iteP (decide_eq_true (by omega)) ⟨_, _, rfl, rfl, _, rfl, iteN ?_ ?_⟩⟩
    · show (!decide ((z.length : Int) ≤ 8)) = false
      rw [decide_eq_true (by omega)]
      rfl
    refine ⟨_, rfl, z, rfl, fun L nL => lc_gen (n := z.cps.size) (fun i H' => Same H H' ∧ H' L = some (.lst ((List.replicate i true).map V.bl))) ⟨same_upd nL, upd_same⟩ (fun i H' hi _ => hi) (fun H' _ => Nat.le_refl _) (fun i x H1 H2 hi p y => ?_) (fun H' p => ?_)⟩
    · obtain ⟨rfl, c, ec, rfl⟩ := y
      obtain ⟨sm, hL⟩ := p
      have hc : 97 ≤ c ∧ c ≤ 122 := k3 c (by
        have := Array.mem_of_getElem? ec
        simpa using this)
      have ea : ("a" : Str).cps.toList = [97] := by decide +kernel
      have ez : ("z" : Str).cps.toList = [122] := by decide +kernel
      refine ⟨rfl, yesT ⟨_, rfl, _, _, rfl, rfl, _, rfl, iteP ?_ ⟨_, _, rfl, rfl, _, hL, ?_, ?_, ?_⟩⟩⟩
      · show (!decide (([c] : List Nat) < ("a" : Str).cps.toList)) = true
        rw [ea, lex1]
        exact decide_eq_true hc.1
      · simp only [List.length_map, List.length_replicate]
        exact small (by have : z.cps.size = z.length := rfl; omega)
      · intro b o e
        have nb : b ≠ L := ne_of_none e nL
        rw [upd_ne nb]
        exact sm b o e
      · rw [upd_same]
        have e1 : (!decide ((("z" : Str).cps.toList) < ([c] : List Nat))) = true := by
          rw [ez, lex1]
          exact decide_eq_true hc.2
        show some (HO.lst ((List.replicate i true).map V.bl ++ [V.bl (!decide ((("z" : Str).cps.toList) < ([c] : List Nat)))])) = _
        rw [e1, List.replicate_succ', List.map_append]
        rfl
    · refine ⟨L, _, rfl, .of p.2, ?_⟩
      have e : ((List.replicate z.cps.size true).all id) = true := by simp
      rw [e]
      exact q H' p.1
def StOk (st : Option Run) : Prop := ∀ r, st = some r → KindOk r.1 ∧ 1 ≤ r.2
theorem at0 {α : Type} {x y : α} : atI [x, y] 0 = some x := rfl
theorem at1 {α : Type} {x y : α} : atI [x, y] 1 = some y := rfl
theorem ix0 {K : PySem.W.Frag} {H : Hp} {t : Addr} {x y : V} {Q : VK} (h : Sq2 H t [x, y]) (q : Q x H) : rIx K (.ref t) (.int 0) H Q := h.elim (fun z => .inl ⟨t, _, 0, _, rfl, rfl, .of z, at0, q⟩) (fun z => .inr (.inl ⟨t, _, 0, _, rfl, rfl, .of z, at0, q⟩))
theorem ix1 {K : PySem.W.Frag} {H : Hp} {t : Addr} {x y : V} {Q : VK} (h : Sq2 H t [x, y]) (q : Q y H) : rIx K (.ref t) (.int 1) H Q := h.elim (fun z => .inl ⟨t, _, 1, _, rfl, rfl, .of z, at1, q⟩) (fun z => .inr (.inl ⟨t, _, 1, _, rfl, rfl, .of z, at1, q⟩))
theorem all_rep (n : Nat) : ((List.replicate n true).all id) = true := by simp
/-! is_run: slots 0:value -/
abbrev s_is_run : Stmt := topS 33
theorem sc_is_run : FnScope ["value"] ["value"] (defScope s_is_run) := ⟨rfl, rfl, rfl, by decide +kernel, rfl, by decide +kernel, by decide +kernel⟩
def sp_is_run : Sp := fun vs H Q _ => ∃ (v : V) (r : Run), vs = [v] ∧ RunG H v r ∧ RunOk r ∧ ∀ H', Same H H' → Q (.bl true) H'
theorem ok_is_run (D : Df K mg "is_run" s_is_run) (T : Tx mg) (G_is_couple : Has P w K mg base 1 "is_couple" ["value"] sp_is_couple) (G_is_kind : Has P w K mg base 1 "is_kind" ["value"] sp_is_kind) (G_is_within : Has P w K mg base 2 "is_within" ["value", "low", "high"] sp_is_within) :
    Has P w K mg base 3 "is_run" ["value"] sp_is_run := by
  refine has_of D sc_is_run (fun _ _ _ _ _ _ us hl => match us, hl with | [_], _ => rfl) (fun vs H Q E h => ?_) (fun f cdv A outer s H vs Q E hr h => ?_)
  · obtain ⟨v, r, rfl, _⟩ := h
    rfl
  · obtain ⟨v, r, rfl, ⟨t, rfl, ht⟩, ⟨k, c1, c2⟩, q⟩ := h
    refine ⟨_, (pss_one (ps_ret (pe_and (pe_callH G_is_couple (hr.mono (by omega)) (by rfl) (pa_cons (pv 0) pa_nil)) (pe_and (pe_callH G_is_kind (hr.mono (by omega)) (by rfl) (pa_cons (pe_ix ix_seq (pv 0) pe_int (fun _ _ => rfl)) pa_nil)) (pe_one (pe_callH G_is_within (hr.mono (by omega)) (by rfl) (pa_cons (pe_ix ix_seq (pv 0) pe_int (fun _ _ => rfl)) (pa_cons pe_int (pa_cons (pe_glI T.c_MAX_COUNT (by rfl)) pa_nil))))))))), ?_⟩
    refine ⟨_, rfl, t, _, rfl, ht, rfl, fun H1 s1 => ⟨true, rfl, iteT ?_⟩⟩
    refine ⟨_, rfl, ix0 (ht.same s1) ⟨r.1, rfl, k, fun H2 s2 => ⟨true, rfl, iteT ?_⟩⟩⟩
    refine ⟨_, rfl, ix1 ((ht.same s1).same s2) ⟨r.2, 1, _, rfl, ?_⟩⟩
    rw [decide_eq_true ⟨c1, c2⟩]
    exact q _ (s1.trans s2)
/-! is_state: slots 0:value -/
abbrev s_is_state : Stmt := topS 35
theorem sc_is_state : FnScope ["value"] ["value"] (defScope s_is_state) := ⟨rfl, rfl, rfl, by decide +kernel, rfl, by decide +kernel, by decide +kernel⟩
def sp_is_state : Sp := fun vs H Q _ => ∃ (v : V) (st : Option Run), vs = [v] ∧ StG H v st ∧ StOk st ∧ ∀ H', Same H H' → Q (.bl true) H'
theorem ok_is_state (D : Df K mg "is_state" s_is_state) (T : Tx mg) (G_is_couple : Has P w K mg base 1 "is_couple" ["value"] sp_is_couple) (G_is_kind : Has P w K mg base 1 "is_kind" ["value"] sp_is_kind) (G_is_whole : Has P w K mg base 1 "is_whole" ["value"] sp_is_whole) :
    Has P w K mg base 2 "is_state" ["value"] sp_is_state := by
  refine has_of D sc_is_state (fun _ _ _ _ _ _ us hl => match us, hl with | [_], _ => rfl) (fun vs H Q E h => ?_) (fun f cdv A outer s H vs Q E hr h => ?_)
  · obtain ⟨v, r, rfl, _⟩ := h
    rfl
  · obtain ⟨v, st, rfl, hv, ok, q⟩ := h
    refine ⟨_, (pss_cons (ps_if (pt_cmpR op_isN (pv 0) pe_non (nomark _)) (pss_one (ps_ret pe_bl)) pss_nil)
    (pss_one (ps_ret (pe_and (pe_callH G_is_couple (hr.mono (by omega)) (by rfl) (pa_cons (pv 0) pa_nil)) (pe_and (pe_callH G_is_kind (hr.mono (by omega)) (by rfl) (pa_cons (pe_ix ix_seq (pv 0) pe_int (fun _ _ => rfl)) pa_nil)) (pe_and (pe_callH G_is_whole (hr.mono (by omega)) (by rfl) (pa_cons (pe_ix ix_seq (pv 0) pe_int (fun _ _ => rfl)) pa_nil)) (pe_one (pe_cmpR op_ge (pe_ix ix_seq (pv 0) pe_int (fun _ _ => rfl)) pe_int (nomark _))))))))), ?_⟩
    cases st with
    | none =>
      cases hv
      exact ⟨_, rfl, rfl, _, rfl, iteP rfl (q H (Same.refl H))⟩
    | some r =>
      obtain ⟨t, rfl, ht⟩ := hv
      obtain ⟨k, c1⟩ := ok r rfl
      refine ⟨_, rfl, rfl, _, rfl, iteN rfl ?_⟩
      refine ⟨_, rfl, t, _, rfl, ht, rfl, fun H1 s1 => ⟨true, rfl, iteT ?_⟩⟩
      refine ⟨_, rfl, ix0 (ht.same s1) ⟨r.1, rfl, k, fun H2 s2 => ⟨true, rfl, iteT ?_⟩⟩⟩
      refine ⟨_, rfl, ix1 ((ht.same s1).same s2) ⟨r.2, rfl, true, rfl, iteT ?_⟩⟩
      refine ⟨_, rfl, ix1 ((ht.same s1).same s2) ⟨_, _, rfl, rfl, ?_⟩⟩
      show Q (.bl (decide (1 ≤ r.2))) H2
      rw [decide_eq_true c1]
      exact q _ (s1.trans s2)
/-! is_sequence: slots 0:value 1:run 2:following -/
abbrev s_is_sequence : Stmt := topS 34
theorem sc_is_sequence : FnScope ["value", "run", "following"] ["value"] (defScope s_is_sequence) := ⟨rfl, rfl, rfl, by decide +kernel, rfl, by decide +kernel, by decide +kernel⟩
def sp_is_sequence : Sp := fun vs H Q _ => ∃ (v : V) (rs : List Run), vs = [v] ∧ RunsG H v rs ∧ SeqOk rs ∧ ∀ H', Same H H' → Q (.bl true) H'
theorem ok_is_sequence (D : Df K mg "is_sequence" s_is_sequence) (T : Tx mg) (G_is_listed : Has P w K mg base 1 "is_listed" ["value", "most"] sp_is_listed) (G_is_run : Has P w K mg base 3 "is_run" ["value"] sp_is_run) :
    Has P w K mg base 4 "is_sequence" ["value"] sp_is_sequence := by
  refine has_of D sc_is_sequence (fun _ _ _ _ _ _ us hl => match us, hl with | [_], _ => rfl) (fun vs H Q E h => ?_) (fun f cdv A outer s H vs Q E hr h => ?_)
  · obtain ⟨v, r, rfl, _⟩ := h
    rfl
  · obtain ⟨v, rs, rfl, ⟨a, xs, rfl, hx, hp⟩, ⟨l4, rok, alt⟩, q⟩ := h
    have lx : xs.length = rs.length := Paired.len hp
    refine ⟨_, (pss_cons (ps_if (PW.pt (pw_or (pt_not (pt_val (pe_callH G_is_listed (hr.mono (by omega)) (by rfl) (pa_cons (pv 0) (pa_cons (pe_glI T.c_MAX_RUNS (by rfl)) pa_nil))))) (pw_or1 (pt_not (pt_val (pe_callB (cr_all rfl) (by rfl) T.n_all (by decide +kernel) (pa_cons (pe_lc (own := [("run", 1)]) rfl sc_is_sequence.nd (pi_seqV 0) (blkOk_by (N := ["value", "run", "following"]) (sc := defScope s_is_sequence) (by decide +kernel)) (fun _ _ _ _ _ => (pg_name (i := 1) sc_is_sequence.nd rfl (by first | exact Or.inl rfl | exact Or.inr rfl))) (fun _ _ _ _ _ => pts_nil) (fun _ _ _ _ _ => (pe_callH G_is_run (hr.mono (by omega)) (by rfl) (pa_cons (pv 1) pa_nil)))) pa_nil))))))) (pss_one (ps_ret pe_bl)) pss_nil)
    (pss_one (ps_ret (pe_callB (cr_all rfl) (by rfl) T.n_all (by decide +kernel) (pa_cons (pe_lc (own := [("run", 1), ("following", 2)]) rfl sc_is_sequence.nd (pi_zip1 (i := 0) (RZ.pi_zipA (by rfl) T.n_zip (pa_cons (pv 0) (pa_cons (pe_slice (SlR.or sl_list sl_tupA) (pv 0) (po_some pe_int) po_none) pa_nil))) (fun _ _ _ q => ⟨1, rfl, q⟩) (fun _ _ _ q => q)) (blkOk_by (N := ["value", "run", "following"]) (sc := defScope s_is_sequence) (by decide +kernel)) (fun _ _ _ _ _ => (pg_tupK (K := K) (n := 2) rfl rfl (pgs_cons (pg_name (i := 1) sc_is_sequence.nd rfl (by first | exact Or.inl rfl | exact Or.inr rfl)) (pgs_cons (pg_name (i := 2) sc_is_sequence.nd rfl (by first | exact Or.inl rfl | exact Or.inr rfl)) pgs_nil)))) (fun _ _ _ _ _ => pts_nil) (fun _ _ _ _ _ => (pe_cmpR op_ne (pe_ix (ix_seqK (K := K) rfl) (pv 1) pe_int (fun _ _ => rfl)) (pe_ix (ix_seqK (K := K) rfl) (pv 2) pe_int (fun _ _ => rfl)) (nomark _)))) pa_nil))))), ?_⟩
    refine ⟨_, rfl, a, xs, 400, rfl, hx, fun H1 s1 => ⟨_, rfl, iteN ?_ ?_⟩⟩
    · show (!decide ((xs.length : Int) ≤ 400)) = false
      rw [decide_eq_true (by omega)]
      rfl
    refine ⟨a, xs, rfl, hx.same s1, fun J wk L nL => lc_wk wk (fun i H' => Same H1 H' ∧ H' L = some (.lst ((List.replicate i true).map V.bl))) (fun _ _ p => p.1) ⟨same_upd nL, upd_same⟩ (fun i x H2 ex p => ?_) (fun H2 p => ?_)⟩
    · obtain ⟨sm, hL⟩ := p
      obtain ⟨r, er, hr1⟩ := Paired.at hp ex
      have hi : i < xs.length := (List.getElem?_eq_some_iff.mp ex).1
      refine ⟨rfl, yesT ⟨_, rfl, x, r, rfl, RunG.same (s1.trans sm) hr1, rok r (List.mem_of_getElem? er), fun H3 s3 => ⟨_, s3 _ _ hL, ?_, same_grow nL (sm.trans s3), ?_⟩⟩⟩
      · simp only [List.length_map, List.length_replicate]
        exact small (by omega)
      · rw [upd_same, List.replicate_succ', List.map_append]
        rfl
    · refine ⟨L, _, rfl, .of p.2, _, rfl, iteN ?_ ?_⟩
      · rw [all_rep]
        rfl
      have s2 : Same H H2 := s1.trans p.1
      refine ⟨a, xs, rfl, hx.same s2, fun J Hc sc wk M nM => ?_⟩
      have sA : Same H Hc := s2.trans sc
      refine lc_gen (n := xs.length - 1) (fun i H' => Same Hc H' ∧ H' M = some (.lst ((List.replicate i true).map V.bl))) ⟨same_upd nM, upd_same⟩ (fun i H' hi p => wk.go i H' p.1 (by omega)) (fun H' p => wk.stop H' p.1) (fun i x H3 H4 hi p y => ?_) (fun H' p => ?_)
      · obtain ⟨T', x1, x2, rfl, nT, rfl, g1, g2⟩ := wk.yld i x H3 H4 p.1 y
        obtain ⟨sm, hM⟩ := p
        have g2 := g2 (by omega)
        have sB : Same H H3 := sA.trans sm
        obtain ⟨r1, e1, v1⟩ := Paired.at hp g1
        obtain ⟨r2, e2, v2⟩ := Paired.at hp g2
        obtain ⟨t1, rfl, w1⟩ := RunG.same (sB.trans (same_upd (o := .tup [x1, x2]) nT)) v1
        obtain ⟨t2, rfl, w2⟩ := RunG.same (sB.trans (same_upd (o := .tup [_, x2]) nT)) v2
        refine ⟨T', _, rfl, .of upd_same, rfl, _, _, rfl, _, _, rfl, rfl, rfl, yesT ?_⟩
        refine ⟨_, rfl, ix0 w1 ⟨_, rfl, ix0 w2 ⟨rfl, _, same_upd nT _ _ hM, ?_, same_grow nM (sm.trans (same_upd nT)), ?_⟩⟩⟩
        · simp only [List.length_map, List.length_replicate]
          exact small (by omega)
        · rw [upd_same, List.replicate_succ', List.map_append]
          have ne : (!decide (V.str r1.1 = V.str r2.1)) = true := by
            rw [decide_eq_false (fun z => alt i r1 r2 e1 e2 (V.str.inj z))]
            rfl
          rw [ne]
          rfl
      · refine ⟨M, _, rfl, .of p.2, ?_⟩
        rw [all_rep]
        exact q _ (sA.trans p.1)
/-! checked_runs: slots 0:sequence 1:kind 2:count -/
abbrev s_checked_runs : Stmt := topS 36
theorem sc_checked_runs : FnScope ["sequence", "kind", "count"] ["sequence"] (defScope s_checked_runs) := ⟨rfl, rfl, rfl, by decide +kernel, rfl, by decide +kernel, by decide +kernel⟩
def sp_checked_runs : Sp := fun vs H Q _ => ∃ (v : V) (rs : List Run), vs = [v] ∧ RunsG H v rs ∧ SeqOk rs ∧ ∀ H' p, Same H H' → H p = none → Runs H' p rs → Q (.ref p) H'
theorem ok_checked_runs (D : Df K mg "checked_runs" s_checked_runs) (T : Tx mg) (G_is_sequence : Has P w K mg base 4 "is_sequence" ["value"] sp_is_sequence) :
    Has P w K mg base 5 "checked_runs" ["sequence"] sp_checked_runs := by
  refine has_of D sc_checked_runs (fun _ _ _ _ _ _ us hl => match us, hl with | [_], _ => rfl) (fun vs H Q E h => ?_) (fun f cdv A outer s H vs Q E hr h => ?_)
  · obtain ⟨v, r, rfl, _⟩ := h
    rfl
  · obtain ⟨v, rs, rfl, hR, ok, q⟩ := h
    refine ⟨_, (pss_cons (ps_if (pt_not (pt_val (pe_callH G_is_sequence (hr.mono (by omega)) (by rfl) (pa_cons (pv 0) pa_nil)))) (pss_one ps_never) pss_nil)
    (pss_one (ps_ret (pe_lc (own := [("kind", 1), ("count", 2)]) rfl sc_checked_runs.nd (pi_seqV 0) (blkOk_by (N := ["sequence", "kind", "count"]) (sc := defScope s_checked_runs) (by decide +kernel)) (fun _ _ _ _ _ => (pg_any (n := 2) rfl (pgs_cons (pg_name (i := 1) sc_checked_runs.nd rfl (by first | exact Or.inl rfl | exact Or.inr rfl)) (pgs_cons (pg_name (i := 2) sc_checked_runs.nd rfl (by first | exact Or.inl rfl | exact Or.inr rfl)) pgs_nil)))) (fun _ _ _ _ _ => pts_nil) (fun _ _ _ _ _ => (pe_tup (pa_cons (pv 1) (pa_cons (pv 2) pa_nil)))))))), ?_⟩
    refine ⟨_, rfl, v, rs, rfl, hR, ok, fun H1 s1 => ⟨true, rfl, iteF ?_⟩⟩
    obtain ⟨a, xs, rfl, hx, hp⟩ := hR
    have lx : xs.length = rs.length := Paired.len hp
    refine ⟨a, xs, rfl, hx.same s1, fun J wk L nL => lc_wk wk (fun i H' => Same H1 H' ∧ ∃ ys, H' L = some (.lst ys) ∧ Paired (RunV H') ys (rs.take i)) (fun _ _ p => p.1) ⟨same_upd nL, [], upd_same, .nil⟩ (fun i x H2 ex p => ?_) (fun H2 p => ?_)⟩
    · obtain ⟨sm, ys, hL, hy⟩ := p
      obtain ⟨r, er, hr1⟩ := Paired.at hp ex
      have hi : i < xs.length := (List.getElem?_eq_some_iff.mp ex).1
      obtain ⟨t, rfl, ht⟩ := RunG.same (s1.trans sm) hr1
      refine ⟨t, _, rfl, ht, rfl, _, _, rfl, _, _, rfl, rfl, rfl, yesT ⟨_, rfl, _, rfl, (by show 2 ≤ sizeLine; decide), fun n nn => ⟨_, same_upd nn _ _ hL, ?_, same_grow nL (sm.trans (same_upd nn)), _, upd_same, ?_⟩⟩⟩
      · have := Paired.len hy
        rw [List.length_take] at this
        exact small (by have := ok.1; omega)
      · rw [take_snoc er]
        refine Paired.app (prs_grow (same_upd nn _ _ hL) (prs_same (same_upd nn) hy)) (.cons ?_ .nil)
        exact RunV.grow (same_upd nn _ _ hL) ⟨n, rfl, upd_same⟩
    · obtain ⟨sm, ys, hL, hy⟩ := p
      rw [lx, List.take_length] at hy
      exact q H2 L (s1.trans sm) (s1.free nL) ⟨ys, hL, hy⟩
/-! checked_state: slots 0:state -/
abbrev s_checked_state : Stmt := topS 40
theorem sc_checked_state : FnScope ["state"] ["state"] (defScope s_checked_state) := ⟨rfl, rfl, rfl, by decide +kernel, rfl, by decide +kernel, by decide +kernel⟩
def sp_checked_state : Sp := fun vs H Q _ => ∃ (v : V) (st : Option Run), vs = [v] ∧ StG H v st ∧ StOk st ∧ ∀ H' v', Same H H' → StV H' v' st → Q v' H'
theorem ok_checked_state (D : Df K mg "checked_state" s_checked_state) (T : Tx mg) (G_is_state : Has P w K mg base 2 "is_state" ["value"] sp_is_state) :
    Has P w K mg base 3 "checked_state" ["state"] sp_checked_state := by
  refine has_of D sc_checked_state (fun _ _ _ _ _ _ us hl => match us, hl with | [_], _ => rfl) (fun vs H Q E h => ?_) (fun f cdv A outer s H vs Q E hr h => ?_)
  · obtain ⟨v, r, rfl, _⟩ := h
    rfl
  · obtain ⟨v, st, rfl, hv, ok, q⟩ := h
    refine ⟨_, (pss_cons (ps_if (pt_not (pt_val (pe_callH G_is_state (hr.mono (by omega)) (by rfl) (pa_cons (pv 0) pa_nil)))) (pss_one ps_never) pss_nil)
    (pss_one (ps_ret (pe_ifExp (pt_cmpR op_isN (pv 0) pe_non (nomark _)) pe_non (pe_callTy call_tuple_of (by rfl) T.n_tuple (by decide +kernel) (pa_cons (pv 0) pa_nil)))))), ?_⟩
    refine ⟨_, rfl, v, st, rfl, hv, ok, fun H1 s1 => ⟨true, rfl, iteF ?_⟩⟩
    cases st with
    | none =>
      cases hv
      exact ⟨_, rfl, rfl, _, rfl, iteP rfl (q H1 _ s1 rfl)⟩
    | some r =>
      obtain ⟨t, rfl, ht⟩ := hv
      refine ⟨_, rfl, rfl, _, rfl, iteN rfl ⟨_, rfl, t, [.str r.1, .int r.2], rfl, ?_⟩⟩
      rcases ht.same s1 with z | z
      · exact .inl ⟨.of z, fun l nl => q _ _ (s1.trans (same_upd nl)) ⟨l, rfl, upd_same⟩⟩
      · exact .inr ⟨.of z, q H1 _ s1 ⟨t, rfl, z⟩⟩
end
end UP

set_option Elab.async false
set_option linter.all false
set_option maxRecDepth 100000
set_option maxHeartbeats 4000000
namespace UP
open PySem PySem.Spec PyProof.Rows L2
section
variable {P : Program} {w : World} {K : PySem.W.Frag} {mg : Str → Option Value} {base : Heap}
def lenR (rs : List Run) : Int := (rs.map (·.2)).sum
/-! length_of: slots 0:runs 1:kind 2:count -/
abbrev s_length_of : Stmt := topS 41
theorem sc_length_of : FnScope ["runs", "kind", "count"] ["runs"] (defScope s_length_of) := ⟨rfl, rfl, rfl, by decide +kernel, rfl, by decide +kernel, by decide +kernel⟩
def sp_length_of : Sp := fun vs H Q _ => ∃ (a : Addr) (rs : List Run), vs = [.ref a] ∧ Runs H a rs ∧ rs.length ≤ 1000 ∧ ∀ H', Same H H' → Q (.int (lenR rs)) H'
theorem ok_length_of (D : Df K mg "length_of" s_length_of) (T : Tx mg) : Has P w K mg base 1 "length_of" ["runs"] sp_length_of := by
  refine has_of D sc_length_of (fun _ _ _ _ _ _ us hl => match us, hl with | [_], _ => rfl) (fun vs H Q E h => ?_) (fun f cdv A outer s H vs Q E hr h => ?_)
  · obtain ⟨v, r, rfl, _⟩ := h
    rfl
  · obtain ⟨a, rs, rfl, ⟨xs, hx, hp⟩, l4, q⟩ := h
    have lx : xs.length = rs.length := Paired.len hp
    refine ⟨_, (pss_one (ps_ret (pe_callB (cr_sum rfl) (by rfl) T.n_sum (by decide +kernel) (pa_cons (pe_lc (own := [("kind", 1), ("count", 2)]) rfl sc_length_of.nd (pi_list (pv 0)) (blkOk_by (N := ["runs", "kind", "count"]) (sc := defScope s_length_of) (by decide +kernel)) (fun _ _ _ _ _ => (pg_tupK (K := K) (n := 2) rfl rfl (pgs_cons (pg_name (i := 1) sc_length_of.nd rfl (by first | exact Or.inl rfl | exact Or.inr rfl)) (pgs_cons (pg_name (i := 2) sc_length_of.nd rfl (by first | exact Or.inl rfl | exact Or.inr rfl)) pgs_nil)))) (fun _ _ _ _ _ => pts_nil) (fun _ _ _ _ _ => (pv 2))) pa_nil)))), ?_⟩
    refine ⟨_, rfl, a, rfl, ⟨xs, .of hx⟩, fun L nL => lc_list (K := K) (a := a) (xs := xs) (fun i H' => Same H H' ∧ H' L = some (.lst (((rs.map (·.2)).take i).map V.int))) ⟨same_upd nL, upd_same⟩ (fun i H' _ p => .of (p.1 _ _ hx)) (fun i x H2 ex p => ?_) (fun H2 p => ?_)⟩
    · obtain ⟨sm, hL⟩ := p
      obtain ⟨r, er, hr1⟩ := Paired.at hp ex
      have hi : i < xs.length := (List.getElem?_eq_some_iff.mp ex).1
      obtain ⟨t, rfl, ht⟩ := RunV.same sm hr1
      refine ⟨t, _, rfl, .of ht, rfl, _, _, rfl, _, _, rfl, rfl, rfl, yesT ⟨_, rfl, _, hL, ?_, same_grow nL sm, ?_⟩⟩
      · simp only [List.length_map, List.length_take]
        exact small (by omega)
      · rw [upd_same, take_snoc (x := r.2) (by rw [List.getElem?_map, er]; rfl), List.map_append]
        rfl
    · refine ⟨L, (rs.map (fun r : Run => r.2)), rfl, .of ?_, q H2 p.1⟩
      have := p.2
      rw [List.take_of_length_le (by rw [List.length_map]; omega)] at this
      exact this
end
end UP

set_option Elab.async false
set_option linter.all false
set_option maxRecDepth 100000
set_option maxHeartbeats 4000000
namespace UP
open PySem PySem.Spec PyProof.Rows L2
/-! ### the mirror of cut -/
theorem lenR_nil : lenR [] = 0 := rfl
theorem lenR_cons (r : Run) (l : List Run) : lenR (r :: l) = r.2 + lenR l := by
  unfold lenR
  rw [List.map_cons, List.sum_cons]
theorem lenR_app (l m : List Run) : lenR (l ++ m) = lenR l + lenR m := by
  induction l with
  | nil => rw [List.nil_append, lenR_nil]; omega
  | cons r t ih => rw [List.cons_append, lenR_cons, lenR_cons, ih]; omega
theorem lenR_snoc (l : List Run) (r : Run) : lenR (l ++ [r]) = lenR l + r.2 := by
  rw [lenR_app, lenR_cons, lenR_nil]
  omega
def sizeR (b s e c : Int) : Int := (if b + c < e then b + c else e) - (if b > s then b else s)
def pieceR (b s e : Int) (r : Run) : List Run := if 0 < sizeR b s e r.2 then [(r.1, sizeR b s e r.2)] else []
def cutR (s e : Int) : Int → List Run → List Run
  | _, [] => []
  | b, r :: t => pieceR b s e r ++ cutR s e (b + r.2) t
theorem cutR_snoc (s e : Int) : ∀ (l : List Run) (b : Int) (r : Run), cutR s e b (l ++ [r]) = cutR s e b l ++ pieceR (b + lenR l) s e r
  | [], b, r => by
    show pieceR b s e r ++ [] = [] ++ pieceR (b + lenR []) s e r
    rw [lenR_nil, Int.add_zero, List.append_nil, List.nil_append]
  | x :: t, b, r => by
    show pieceR b s e x ++ cutR s e (b + x.2) (t ++ [r]) = (pieceR b s e x ++ cutR s e (b + x.2) t) ++ pieceR (b + lenR (x :: t)) s e r
    rw [cutR_snoc s e t, lenR_cons, List.append_assoc, Int.add_assoc]
theorem pieceR_len (b s e : Int) (r : Run) : (pieceR b s e r).length ≤ 1 := by
  unfold pieceR
  split <;> simp
theorem cutR_len (s e : Int) : ∀ (l : List Run) (b : Int), (cutR s e b l).length ≤ l.length
  | [], _ => Nat.le_refl _
  | r :: t, b => by
    show (pieceR b s e r ++ cutR s e (b + r.2) t).length ≤ (r :: t).length
    have h1 := pieceR_len b s e r
    have h2 := cutR_len s e t (b + r.2)
    rw [List.length_append, List.length_cons]
    omega
section
variable {P : Program} {w : World} {K : PySem.W.Frag} {mg : Str → Option Value} {base : Heap}
end
end UP

set_option Elab.async false
set_option linter.all false
set_option maxRecDepth 100000
set_option maxHeartbeats 4000000
namespace UP
open PySem PySem.Spec PyProof.Rows L2
/-! ### the mirror of the states -/
def numR : Option Run → Int
  | none => 0
  | some r => r.2
def leavR : Option Run → Str → Int → Int
  | none, _, _ => 0
  | some r, k, c => if r.1 = k then 0 else if c < r.2 then c else r.2
def stepR : Option Run → Str → Int → Option Run
  | some r, k, c => if r.1 = k then some (k, r.2 + c) else if 0 < r.2 - c then some (r.1, r.2 - c) else if r.2 - c = 0 then none else some (k, -(r.2 - c))
  | none, k, c => some (k, c)
def withR (k : Str) (n : Int) : Option Run := if n = 0 then none else some (k, n)
def stR (rs : List Run) (st : Option Run) : Option Run := rs.foldl (fun s r => stepR s r.1 r.2) st
theorem stR_snoc (l : List Run) (r : Run) (st : Option Run) : stR (l ++ [r]) st = stepR (stR l st) r.1 r.2 := by
  unfold stR
  rw [List.foldl_append]
  rfl
section
variable {P : Program} {w : World} {K : PySem.W.Frag} {mg : Str → Option Value} {base : Heap}
/-! state_with: slots 0:kind 1:number -/
abbrev s_state_with : Stmt := topS 45
theorem sc_state_with : FnScope ["kind", "number"] ["kind", "number"] (defScope s_state_with) := ⟨rfl, rfl, rfl, by decide +kernel, rfl, by decide +kernel, by decide +kernel⟩
def sp_state_with : Sp := fun vs H Q _ => ∃ (k : Str) (n : Int), vs = [.str k, .int n] ∧ ∀ H' v', Same H H' → StV H' v' (withR k n) → Q v' H'
theorem ok_state_with (D : Df K mg "state_with" s_state_with) : Has P w K mg base 1 "state_with" ["kind", "number"] sp_state_with := by
  refine has_of D sc_state_with (fun _ _ _ _ _ _ us hl => match us, hl with | [_, _], _ => rfl) (fun vs H Q E h => ?_) (fun f cdv A outer s₀ H vs Q E hr h => ?_)
  · obtain ⟨k, n, rfl, _⟩ := h
    rfl
  · obtain ⟨k, n, rfl, q⟩ := h
    refine ⟨_, (pss_one (ps_ret (pe_ifExp (pt_cmpR op_eq (pv 1) pe_int (nomark _)) pe_non (pe_tup (pa_cons (pv 0) (pa_cons (pv 1) pa_nil)))))), ?_⟩
    refine ⟨_, rfl, rfl, _, rfl, ?_⟩
    by_cases e : n = 0
    · rw [show withR k n = none from if_pos e] at q
      exact iteP (decide_eq_true (by rw [e])) (q _ _ (Same.refl _) rfl)
    · rw [show withR k n = some (k, n) from if_neg e] at q
      refine iteN (decide_eq_false fun z => e (V.int.inj z)) ?_
      exact ⟨_, rfl, _, rfl, (by show 2 ≤ sizeLine; decide), fun n' nn => q _ _ (same_upd nn) ⟨n', rfl, upd_same⟩⟩
end
end UP

set_option Elab.async false
set_option linter.all false
set_option maxRecDepth 100000
set_option maxHeartbeats 4000000
namespace UP
open PySem PySem.Spec PyProof.Rows L2
def DfD (K : PySem.W.Frag) (mg : Str → Option Value) (x : Str) (st : Stmt) (dvs : List V) : Prop := ∃ f fd, mg x = some (.ref f) ∧ FunD K x x (defArgs st) (defBody st) (defScope st) dvs [] f fd
/-- a def whose last parameter, kw, has the default None -/
def HasD (P : Program) (w : World) (K : PySem.W.Frag) (mg : Str → Option Value) (base : Heap) (k : Nat) (x : Str) (ps : List Str) (n : Nat) (kw : Str) (sp : Sp) : Prop :=
  ∃ f fd, mg x = some (.ref f) ∧ PySem.W.keepIn K (.ref f) = true ∧ Binds K fd ps [] ∧ (∃ ds, Vals [.non] ds ∧ Binds K fd ps ds) ∧ KBn K fd ps n [kw] (fun us ws => us ++ ws) (fun vs zs => vs ++ zs) ∧ FnOk P w K mg base CX0 k f fd ps sp
section
variable {P : Program} {w : World} {K : PySem.W.Frag} {mg : Str → Option Value} {base : Heap}
theorem HasD.has {k n : Nat} {x kw : Str} {ps : List Str} {sp : Sp} (h : HasD P w K mg base k x ps n kw sp) : Has P w K mg base k x ps sp := by
  obtain ⟨f, fd, g, kp, b, _, _, F⟩ := h
  exact ⟨f, fd, g, kp, b, F⟩
theorem has_ofD {x kw : Str} {st : Stmt} {ps N : List Str} {k n : Nat} {sp : Sp} (D : DfD K mg x st [.non]) (S : FnScope N ps (defScope st)) (hpn : ps.length = n + 1)
    (hb : ∀ (T : Addr) (kV doc pm : Value) (an : Option Addr) (cdv ct : Value) (us its : List Value), us.length = n + 1 → its.length = 1 →
      ∃ k, bindArgs (PySem.W.fnOf x x (defArgs st) (defBody st) (defScope st) (.ref T) kV doc pm an cdv ct) ⟨us, []⟩ = seqItems? (.ref T) >>= k ∧ k (some its.toArray) = pure (ps.zip us))
    (hb1 : ∀ (T : Addr) (kV doc pm : Value) (an : Option Addr) (cdv ct : Value) (us its : List Value), us.length = n → its.length = 1 →
      ∃ k, bindArgs (PySem.W.fnOf x x (defArgs st) (defBody st) (defScope st) (.ref T) kV doc pm an cdv ct) ⟨us, []⟩ = seqItems? (.ref T) >>= k ∧ k (some its.toArray) = pure (ps.zip (us ++ its)))
    (hb2 : ∀ (T : Addr) (kV doc pm : Value) (an : Option Addr) (cdv ct : Value) (us its : List Value) (v : Value), us.length = n → its.length = 1 →
      ∃ k, bindArgs (PySem.W.fnOf x x (defArgs st) (defBody st) (defScope st) (.ref T) kV doc pm an cdv ct) ⟨us, [(kw, v)]⟩ = seqItems? (.ref T) >>= k ∧ k (some its.toArray) = pure (ps.zip (us ++ [v])))
    (len : ∀ vs H Q E, sp vs H Q E → vs.length = ps.length)
    (body : ∀ (f : Addr) (cdv : Value) (A : Around) (outer : List Env) (s : Shared) (H : Hp) (vs : List V) (Q : VK) (E : XK), Room k (A.deeper (envOfC x (defScope st) s.heap.objs.size f cdv)) → sp vs H Q E →
      ∃ t, PSs (cxOf CX0 P w K mg base N x (defScope st) f cdv A outer s H E).nox (defBody st) t ∧ t { nx := fun _ H' => Q .non H', rt := Q } (start N vs) H) :
    HasD P w K mg base (k + 1) x ps n kw sp := by
  obtain ⟨f, fd, g, F⟩ := D
  have B0 : Binds K fd ps [] := by
    obtain ⟨ds, v, b⟩ := F.binds1 (n + 1) 1 (ps := ps) (by intro z; cases z) (by rw [hpn]; rfl) fun T kV doc pm an cdv ct us its h1 h2 => by
      obtain ⟨k, e1, e2⟩ := hb T kV doc pm an cdv ct us its h1 h2
      refine ⟨k, e1, ?_⟩
      have h3 : its.length ≤ 1 := Nat.le_of_eq h2
      rw [e2, List.drop_of_length_le h3, List.append_nil]
    cases v
    exact b
  have B1 : ∃ ds, Vals [V.non] ds ∧ Binds K fd ps ds := by
    obtain ⟨ds, v, b⟩ := F.binds1 n 0 (ps := ps) (by intro z; cases z) (by rw [hpn]; rfl) fun T kV doc pm an cdv ct us its h1 h2 => by
      obtain ⟨k, e1, e2⟩ := hb1 T kV doc pm an cdv ct us its h1 h2
      exact ⟨k, e1, by rw [e2, List.drop_zero]⟩
    exact ⟨ds, v, b⟩
  have B2 : KBn K fd ps n [kw] (fun us ws => us ++ ws) (fun vs zs => vs ++ zs) := by
    refine ⟨fun s us ws X l1 l2 => ?_, fun r1 r2 => r1.append r2⟩
    obtain ⟨oc, od, dV, kV, doc, pm, an, cdv, ct, osl, rfl, lk, hcd, hD, _⟩ := F.ex
    rcases hD with ⟨z, _⟩ | ⟨_, T, o, its, m, rfl, lT, oT, rT⟩
    · cases z
    · match ws, l2 with
      | [v], _ =>
        obtain ⟨k, e1, e2⟩ := hb2 T kV doc pm an cdv ct us its v l1 rT.length.symm
        refine BindsTo.of_looks fun M => ?_
        show PySem.W.Looks M s.heap (bindArgs _ ⟨us, [(kw, v)]⟩) _
        rw [e1]
        exact looks_items X lT oT (.of_pure e2)
  refine ⟨f, fd, g, F.kp, B0, B1, B2, F.ok S len fun cdv A outer s H vs Q E hr h => ?_⟩
  obtain ⟨t, p, q⟩ := body f cdv A outer s H vs Q E hr h
  exact ⟨t, p.nox, q⟩
end
section
variable {X : Cx}
/-- the default taken -/
theorem pe_callDH {k n : Nat} {x kw : Str} {ps : List Str} {sp : Sp} {p pos : Pos} {e : Expr} {es : List Expr} {t : TA} (G : HasD X.prog X.w X.K X.mg X.base k x ps n kw sp) (hr : Room k X.A) (hg : Gl X x) (ha : PA X (e :: es) t)
    (hdb : (x == ("__debug__" : Str)) = false := by decide) (he : starEach (e :: es) X.env = (false, eval e X.env) :: starEach es X.env := by rfl) (hpl : (backTo pos (starEach es X.env)).any (·.1) = false := by rfl) :
    PE X (.Call (.Name x p) (e :: es) [] pos) (tCall sp [.non] E0 t) := by
  obtain ⟨f, fd, g, kp, _, ⟨ds, v, b⟩, _, F⟩ := G
  exact pe_call F hr hg g kp b v pass0 ha hdb he hpl
/-- the last one by its name -/
theorem pe_callNH {k n : Nat} {x kw : Str} {ps : List Str} {sp : Sp} {p pos : Pos} {e : Expr} {es : List Expr} {kws : List Keyword} {t tk : TA} (G : HasD X.prog X.w X.K X.mg X.base k x ps n kw sp) (hr : Room k X.A) (hg : Gl X x) (ha : PA X (e :: es) t) (hk : PK X kws tk)
    (h1 : (backToKw pos (keywordEach kws X.env)).all (·.1.isSome) = true := by rfl) (h2 : (backToKw pos (keywordEach kws X.env)).filterMap (·.1) = [kw] := by rfl) (hdb : (x == ("__debug__" : Str)) = false := by decide)
    (he : starEach (e :: es) X.env = (false, eval e X.env) :: starEach es X.env := by rfl) (hpl : ((backTo pos (starEach (e :: es) X.env)).any (·.1) || (backToKw pos (keywordEach kws X.env)).any (·.1.isNone)) = false := by rfl) :
    PE X (.Call (.Name x p) (e :: es) kws pos) (tCallN n 1 sp (fun vs zs => vs ++ zs) E0 t tk) := by
  obtain ⟨f, fd, g, kp, _, _, b, F⟩ := G
  exact pe_callN F hr hg g kp b pass0 ha hk h1 h2 hdb he hpl
end
section
variable {P : Program} {w : World} {K : PySem.W.Frag} {mg : Str → Option Value} {base : Heap}
theorem SeqOk.pos {rs : List Run} (h : SeqOk rs) : ∀ r ∈ rs, 1 ≤ r.2 := fun r m => (h.2.1 r m).2.1
theorem pieceR_pos {b s e : Int} {r x : Run} (h : x ∈ pieceR b s e r) : 1 ≤ x.2 := by
  unfold pieceR at h
  split at h
  · rename_i z
    simp only [List.mem_singleton] at h
    subst h
    show 1 ≤ sizeR b s e r.2
    omega
  · cases h
theorem cutR_pos {s e : Int} : ∀ {l : List Run} {b : Int}, ∀ x ∈ cutR s e b l, 1 ≤ x.2
  | [], _, x, h => by cases h
  | r :: t, b, x, h => by
    rcases List.mem_append.mp (show x ∈ pieceR b s e r ++ cutR s e (b + r.2) t from h) with h | h
    · exact pieceR_pos h
    · exact cutR_pos x h
end
end UP

set_option Elab.async false
set_option linter.all false
set_option maxRecDepth 100000
set_option maxHeartbeats 4000000
namespace UP
open PySem PySem.Spec PyProof.Rows L2
section
variable {P : Program} {w : World} {K : PySem.W.Frag} {mg : Str → Option Value} {base : Heap}
end
end UP

set_option Elab.async false
set_option linter.all false
set_option maxRecDepth 100000
set_option maxHeartbeats 4000000
namespace UP
open PySem PySem.Spec PyProof.Rows L2
/-! ### data -/
def dRun (r : Run) : PyData := .tuple [.str r.1, .int r.2]
theorem dp_run {K : PySem.W.Frag} {H : Hp} {v : V} {r : Run} (h : RunV H v r) : Dp K H v (dRun r) := by
  obtain ⟨t, rfl, h⟩ := h
  exact .tup (.of h) (.cons (.str _) (.cons (.int _) .nil))
theorem dp_all {K : PySem.W.Frag} {H : Hp} : ∀ {xs : List V} {rs : List Run}, Paired (RunV H) xs rs → DpAll K H xs (rs.map dRun)
  | _, _, .nil => .nil
  | _, _, .cons h t => .cons (dp_run h) (dp_all t)
theorem KindOk.str {s : Str} (h : KindOk s) : PyData.strOk s = true := by
  unfold PyData.strOk
  rw [Array.all_eq_true']
  intro c hc
  have := h.2.2 c (by simpa using hc)
  exact decide_eq_true (by omega)
theorem can_run {r : Run} (h : KindOk r.1) : (dRun r).canLay0 = true := by
  simp [dRun, PyData.canLay0, PyData.canLayAll0, h.str]
theorem can_runs : ∀ {rs : List Run}, (∀ r ∈ rs, KindOk r.1) → PyData.canLayAll0 (rs.map dRun) = true
  | [], _ => by simp [PyData.canLayAll0]
  | r :: t, h => by
    rw [List.map_cons, PyData.canLayAll0, can_run (h r (List.mem_cons_self ..)), can_runs fun x hx => h x (List.mem_cons_of_mem _ hx)]
    rfl
theorem depth_run (r : Run) : (dRun r).depth ≤ 2 := by
  simp [dRun, PyData.depth, PyData.depthAll]
theorem depth_runs : ∀ (rs : List Run), PyData.depthAll (rs.map dRun) ≤ 2
  | [] => by simp [PyData.depthAll]
  | r :: t => by
    rw [List.map_cons, PyData.depthAll]
    exact Nat.max_le.mpr ⟨depth_run r, depth_runs t⟩
theorem shaped_runs {rs : List Run} (h : ∀ r ∈ rs, KindOk r.1) : SeqAt.shaped (.list (rs.map dRun)) = true := by
  unfold SeqAt.shaped
  rw [PyData.canLay0, can_runs h, PyData.depth]
  have := depth_runs rs
  exact decide_eq_true (by omega)
theorem shaped_run {r : Run} (h : KindOk r.1) : SeqAt.shaped (dRun r) = true := by
  unfold SeqAt.shaped
  rw [can_run h]
  have := depth_run r
  exact decide_eq_true (by omega)
theorem shaped_nil : SeqAt.shaped (.list []) = true := by decide
theorem eqv_nil (rs : List Run) : PyData.eqv (.list (rs.map dRun)) (.list []) = rs.isEmpty := by
  cases rs with
  | nil => simp [PyData.eqv, PyData.eqvAll]
  | cons r t => simp [PyData.eqv, PyData.eqvAll]
theorem sb {sp : Addr} {H H' : Hp} (h : Same H H') : But sp H H' := fun b o _ e => h b o e
theorem But.free {sp : Addr} {H H' : Hp} (b : But sp H H') (z : Spr H' sp) {p : Addr} (h : H' p = none) : H p = none := by
  by_cases e : p = sp
  · subst e
    obtain ⟨_, _, _, h1, _⟩ := z
    rw [h1] at h
    cases h
  · cases q : H p with
    | none => rfl
    | some o =>
      rw [b p o e q] at h
      cases h
theorem Spr.ne {sp p : Addr} {H : Hp} (z : Spr H sp) (h : H p = none) : p ≠ sp := by
  obtain ⟨_, _, _, h1, _⟩ := z
  exact fun e => by rw [e, h1] at h; cases h
instance (s : Str) : Decidable (KindOk s) := by
  unfold KindOk
  infer_instance
section
variable {P : Program} {w : World} {K : PySem.W.Frag} {mg : Str → Option Value} {base : Heap}
end
end UP

set_option Elab.async false
set_option linter.all false
set_option maxRecDepth 100000
set_option maxHeartbeats 4000000
namespace UP
open PySem PySem.Spec PyProof.Rows L2
theorem pe_bmK {X : Cx} {K : PySem.W.Frag} {e : Expr} {c : String} {r : V → List V → Hp → VK → Prop} {to : TE} {t : TA} (h : X.K = K) (p : PE X e (tBM X.K c r to t)) : PE X e (tBM K c r to t) := h ▸ p
theorem if_by {c : TT} {t u : TS} {D : Ends} {σ : L2.St} {H : Hp} (R : Bool → Hp → Prop) (h : ∀ Q' : Bool → Hp → Prop, (∀ b H', R b H' → Q' b H') → c σ H Q') (ht : ∀ H', R true H' → t D σ H') (hu : ∀ H', R false H' → u D σ H') : tIfS c t u D σ H := by
  refine h _ fun b H' r => ?_
  cases b with
  | true => exact iteT (ht H' r)
  | false => exact iteF (hu H' r)
theorem erase_map {α β : Type} (f : α → β) : ∀ (l : List α) (i : Nat), (l.map f).eraseIdx i = (l.eraseIdx i).map f
  | [], _ => rfl
  | x :: t, 0 => rfl
  | x :: t, i + 1 => by
    simp only [List.map_cons, List.eraseIdx_cons_succ]
    rw [erase_map f t i]
def eight : List Str := ["a", "b", "c", "ab", "zz", "abcdefgh", "aa", "z"]
theorem eight_ok : ∀ s ∈ eight, KindOk s := by decide +kernel
theorem alt_snoc {l : List Run} {x : Run} (h : Alt l) (k : ∀ y, l[l.length - 1]? = some y → y.1 ≠ x.1) : Alt (l ++ [x]) := by
  intro i a b ha hb
  by_cases h1 : i + 1 < l.length
  · rw [List.getElem?_append_left (by omega)] at ha
    rw [List.getElem?_append_left h1] at hb
    exact h i a b ha hb
  · by_cases h2 : i + 1 = l.length
    · rw [List.getElem?_append_left (by omega)] at ha
      rw [List.getElem?_append_right (by omega), h2, Nat.sub_self] at hb
      cases hb
      rw [show i = l.length - 1 by omega] at ha
      exact k a ha
    · rw [List.getElem?_append_right (by omega)] at hb
      rw [List.getElem?_eq_none (by simp; omega)] at hb
      cases hb
theorem pow62 {x : Int} (h0 : 0 ≤ x) (h1 : x ≤ 1000000) : -(2 ^ 62) ≤ x ∧ x < 2 ^ 62 := by omega
theorem wide8 {m : Int} (h0 : 0 ≤ m) (h1 : m ≤ 1000000000000000000000000000000000000000000000000000000000000) : m.natAbs < 2 ^ 8000 :=
  Nat.lt_of_lt_of_le (show m.natAbs < 2 ^ 256 by omega) (Nat.pow_le_pow_right (by decide) (by decide))
section
variable {P : Program} {w : World} {K : PySem.W.Frag} {mg : Str → Option Value} {base : Heap}
end
end UP

set_option Elab.async false
set_option linter.all false
set_option maxRecDepth 100000
set_option maxHeartbeats 4000000
namespace UP
open PySem PySem.Spec PyProof.Rows L2
def scR (t : Int) (rs : List Run) : List Run := rs.map fun r => (r.1, r.2 * t)
def toldR (ws : List Run) : Option Run := match ws with
  | [] => none
  | r :: _ => some (r.1, (ws.length : Int))
def repR (k : Str) (n : Int) : Option Run := if n = 0 then none else some (k, n)
theorem repR_zero (k : Str) : repR k 0 = none := if_pos rfl
theorem repR_pos {k : Str} {n : Int} (h : 0 < n) : repR k n = some (k, n) := if_neg (by omega)
def PosO (st : Option Run) : Prop := ∀ r, st = some r → 1 ≤ r.2
theorem stepR_pos {st : Option Run} {k : Str} {c : Int} (h : PosO st) (hc : 1 ≤ c) : PosO (stepR st k c) := by
  intro r e
  cases st with
  | none =>
    cases e
    exact hc
  | some x =>
    have hx := h x rfl
    have e : (if x.1 = k then some (k, x.2 + c) else if 0 < x.2 - c then some (x.1, x.2 - c) else if x.2 - c = 0 then none else some (k, -(x.2 - c))) = some r := e
    by_cases h1 : x.1 = k
    · rw [if_pos h1] at e
      cases e
      show 1 ≤ x.2 + c
      omega
    · rw [if_neg h1] at e
      by_cases h2 : 0 < x.2 - c
      · rw [if_pos h2] at e
        cases e
        show 1 ≤ x.2 - c
        omega
      · rw [if_neg h2] at e
        by_cases h3 : x.2 - c = 0
        · rw [if_pos h3] at e
          cases e
        · rw [if_neg h3] at e
          cases e
          show 1 ≤ -(x.2 - c)
          omega
theorem stR_cons (r : Run) (l : List Run) (st : Option Run) : stR (r :: l) st = stR l (stepR st r.1 r.2) := rfl
theorem stR_pos : ∀ {rs : List Run} {st : Option Run}, PosO st → (∀ r ∈ rs, 1 ≤ r.2) → PosO (stR rs st)
  | [], _, h, _ => h
  | r :: t, st, h, k => by
    rw [stR_cons]
    exact stR_pos (stepR_pos h (k r (List.mem_cons_self ..))) fun x hx => k x (List.mem_cons_of_mem _ hx)
theorem StOk.pos {st : Option Run} (h : StOk st) : PosO st := fun r e => (h r e).2
section
variable {P : Program} {w : World} {K : PySem.W.Frag} {mg : Str → Option Value} {base : Heap}
end
end UP

set_option Elab.async false
set_option linter.all false
set_option maxRecDepth 100000
set_option maxHeartbeats 4000000
namespace UP
open PySem PySem.Spec PyProof.Rows L2
/-! ### plain data, by depth -/
def Dsc (v : V) (d : PyData) : Prop := (v = .non ∧ d = .none) ∨ (∃ b, v = .bl b ∧ d = .bool b) ∨ (∃ i, v = .int i ∧ d = .int i) ∨ ∃ s, v = .str s ∧ d = .str s
def Dt (H : Hp) : Nat → V → PyData → Prop
  | 0, v, d => Dsc v d
  | n + 1, v, d => Dsc v d ∨ (∃ a xs ds, v = .ref a ∧ H a = some (.lst xs) ∧ d = .list ds ∧ Paired (Dt H n) xs ds ∧ ds.length ≤ 100000) ∨ ∃ a xs ds, v = .ref a ∧ H a = some (.tup xs) ∧ d = .tuple ds ∧ Paired (Dt H n) xs ds ∧ ds.length ≤ 100000
theorem Dt.same {H H' : Hp} (s : Same H H') : ∀ {n : Nat} {v : V} {d : PyData}, Dt H n v d → Dt H' n v d
  | 0, _, _, h => h
  | n + 1, v, d, h => by
    rcases h with h | ⟨a, xs, ds, e, h, e2, p, l⟩ | ⟨a, xs, ds, e, h, e2, p, l⟩
    · exact .inl h
    · exact .inr (.inl ⟨a, xs, ds, e, s _ _ h, e2, Paired.imp (fun _ _ z => Dt.same s z) p, l⟩)
    · exact .inr (.inr ⟨a, xs, ds, e, s _ _ h, e2, Paired.imp (fun _ _ z => Dt.same s z) p, l⟩)
theorem dsc_ref {a : Addr} {d : PyData} (h : Dsc (.ref a) d) : False := by
  rcases h with ⟨h, _⟩ | ⟨_, h, _⟩ | ⟨_, h, _⟩ | ⟨_, h, _⟩ <;> cases h
theorem dsc_lst {v : V} {ds : List PyData} (h : Dsc v (.list ds)) : False := by
  rcases h with ⟨_, h⟩ | ⟨_, _, h⟩ | ⟨_, _, h⟩ | ⟨_, _, h⟩ <;> cases h
theorem dsc_tup {v : V} {ds : List PyData} (h : Dsc v (.tuple ds)) : False := by
  rcases h with ⟨_, h⟩ | ⟨_, _, h⟩ | ⟨_, _, h⟩ | ⟨_, _, h⟩ <;> cases h
theorem dsc_one {v v' : V} {d : PyData} (h : Dsc v d) (h' : Dsc v' d) : v = v' := by
  rcases h with ⟨e, z⟩ | ⟨x, e, z⟩ | ⟨x, e, z⟩ | ⟨x, e, z⟩ <;> subst z <;> rcases h' with ⟨e', z⟩ | ⟨y, e', z⟩ | ⟨y, e', z⟩ | ⟨y, e', z⟩ <;> cases z <;> rw [e, e']
theorem kit_no {K : PySem.W.Frag} {c : String} (h1 : kitB c "list" = some false) (h2 : kitB c "tuple" = some false) : PySem.W.kitAny K (.type c) [.type "list", .type "tuple"] = some false :=
  kitAny_cons (b := false) (kit_ty h1) (fun _ => kitAny_cons (b := false) (kit_ty h2) (fun _ => rfl) (fun z => nomatch z)) (fun z => nomatch z)
theorem ixL {K : PySem.W.Frag} {x y : V} {H : Hp} {Q : VK} (h : rIxL K x y H Q) : rIx K x y H Q := .inl h
theorem ixT {K : PySem.W.Frag} {x y : V} {H : Hp} {Q : VK} (h : rIxT K x y H Q) : rIx K x y H Q := .inr (.inl h)
section
variable {P : Program} {w : World} {K : PySem.W.Frag} {mg : Str → Option Value} {base : Heap}
end
end UP

set_option Elab.async false
set_option linter.all false
set_option maxRecDepth 100000
set_option maxHeartbeats 4000000
namespace UP
open PySem PySem.Spec PyProof.Rows L2
/-! ### a walk over one object that stays, whatever else is changed -/
structure WkA (J : It) (H : Hp) (a : Addr) (xs : List V) : Prop where
  go : ∀ i H', H' a = H a → i < xs.length → J.go i H'
  stop : ∀ H', H' a = H a → J.stop xs.length H'
  yld : ∀ i x H' H'', H' a = H a → J.yld i H' x H'' → H'' = H' ∧ xs[i]? = some x
def iSeqA (i : Nat) : TI := fun σ H R => ∃ a xs, σ[i]? = some (some (.ref a)) ∧ Sq2 H a xs ∧ ∀ J, WkA J H a xs → R J H
section
variable {X : Cx}
theorem wka_list {K : PySem.W.Frag} {H : Hp} {a : Addr} {xs : List V} (h : H a = some (.lst xs)) : WkA (Itl K a) H a xs :=
  ⟨fun i H' e hi => ⟨xs, xs[i], .of (e.trans h), List.getElem?_eq_getElem hi⟩, fun H' e => ⟨xs, .of (e.trans h), Nat.le_refl _⟩, fun i x H' H'' e y => ⟨y.1, y.2 xs (.of (e.trans h))⟩⟩
theorem wka_tup {K : PySem.W.Frag} {H : Hp} {a : Addr} {xs : List V} (h : H a = some (.tup xs)) : WkA (Itt K a) H a xs :=
  ⟨fun i H' e hi => ⟨xs, xs[i], .of (e.trans h), List.getElem?_eq_getElem hi⟩, fun H' e => ⟨xs, .of (e.trans h), Nat.le_refl _⟩, fun i x H' H'' e y => ⟨y.1, y.2 xs (.of (e.trans h))⟩⟩
theorem pi_seqA (i : Nat) {x : Str} {pos : Pos} {tg : Expr} (hN : X.N[i]? = some x := by rfl) (hv : Vis X.env.scope x := by first | exact Or.inl rfl | exact Or.inr (Or.inl rfl) | exact Or.inr (Or.inr rfl)) (hd : (x == ("__debug__" : Str)) = false := by decide)
    (hc : (x == ("__classdict__" : Str)) = false := by decide) : PI X tg (.Name x pos) (iSeqA i) := by
  refine ⟨fun pins s σ H R I hw => ?_⟩
  obtain ⟨a, xs, e, h, k⟩ := hw
  rcases h with h | h
  · exact (pi_list (pe_var hN hv hd hc)).run pins s σ H R I ⟨_, e, a, rfl, ⟨xs, .of h⟩, k _ (wka_list h)⟩
  · exact (pi_tup (pe_var hN hv hd hc)).run pins s σ H R I ⟨_, e, a, rfl, ⟨xs, .of h⟩, k _ (wka_tup h)⟩
end
theorem lc_wka {J : It} {H0 H1 : Hp} {a : Addr} {xs : List V} {g : TG} {tt : TT} {te : TE} {vs : List Nat} {σ : L2.St} {D : Addr} {Qd : Hp → Prop} (wk : WkA J H0 a xs) (Pv : Nat → Hp → Prop) (hsm : ∀ i H, Pv i H → H a = H0 a) (h0 : Pv 0 (upd H1 D (.lst [])))
    (hs : ∀ i x H, xs[i]? = some x → Pv i H → g x (wipe σ vs) H fun σ2 H2 => wipe σ2 vs = wipe σ vs ∧ tt σ2 H2 fun b H3 =>
      if b = true then te σ2 H3 fun y H4 => ∃ acc, H4 D = some (.lst acc) ∧ acc.length < sizeLine ∧ Pv (i + 1) (upd H4 D (.lst (acc ++ [y]))) else Pv (i + 1) H3) (hd : ∀ H, Pv xs.length H → Qd H) :
    ∃ W : Nat → Nat → Hp → Prop, (∃ m, W 0 m (upd H1 D (.lst []))) ∧ ∀ i m H, W i m H →
      (J.stop i H ∧ Qd H) ∨ (J.go i H ∧ ∃ Nx : Hp → Prop, (∀ H', Nx H' → ∃ m', m' < m ∧ W (i + 1) m' H') ∧ ∀ x H', J.yld i H x H' → g x (wipe σ vs) H' fun σ2 H2 => wipe σ2 vs = wipe σ vs ∧ tt σ2 H2 fun b H3 =>
        if b = true then te σ2 H3 fun y H4 => ∃ acc, H4 D = some (.lst acc) ∧ acc.length < sizeLine ∧ Nx (upd H4 D (.lst (acc ++ [y]))) else Nx H3) := by
  refine lc_gen Pv h0 (fun i H hi p => wk.go i H (hsm i H p) hi) (fun H p => wk.stop H (hsm _ H p)) (fun i x H H' hi p y => ?_) hd
  obtain ⟨e, ex⟩ := wk.yld i x H H' (hsm i H p) y
  subst e
  exact hs i x _ ex p
theorem for_gen {J : It} {n : Nat} {H : Hp} {g : TG} {tb : TS} {D : Ends} {σ : L2.St} (Pv : Nat → L2.St → Hp → Prop) (h0 : Pv 0 σ H) (hg : ∀ i σ H, i < n → Pv i σ H → J.go i H) (hst : ∀ σ H, Pv n σ H → J.stop n H)
    (hs : ∀ i x σ H H', i < n → Pv i σ H → J.yld i H x H' → g x σ H' fun σ2 H2 => tb { D with nx := Pv (i + 1), ct := Pv (i + 1), bk := D.nx } σ2 H2) (hd : ∀ σ H, Pv n σ H → D.nx σ H) :
    ∃ W : Nat → Nat → L2.St → Hp → Prop, (∃ m, W 0 m σ H) ∧ ∀ i m σ H, W i m σ H →
      (J.stop i H ∧ D.nx σ H) ∨ (J.go i H ∧ ∃ N : L2.St → Hp → Prop, (∀ σ' H', N σ' H' → ∃ m', m' < m ∧ W (i + 1) m' σ' H') ∧ ∀ x H', J.yld i H x H' → g x σ H' fun σ2 H2 => tb { D with nx := N, ct := N, bk := D.nx } σ2 H2) := by
  refine ⟨fun i m σ H => m = n - i ∧ i ≤ n ∧ Pv i σ H, ⟨n, by omega, Nat.zero_le _, h0⟩, ?_⟩
  rintro i m σ H ⟨rfl, hi, p⟩
  by_cases hlt : i < n
  · exact Or.inr ⟨hg i σ H hlt p, Pv (i + 1), fun σ' H' p' => ⟨n - (i + 1), by omega, rfl, hlt, p'⟩, fun x H' y => hs i x σ H H' hlt p y⟩
  · have e : i = n := by omega
    subst e
    exact Or.inl ⟨hst σ H p, hd σ H p⟩
theorem for_wka {J : It} {H0 H : Hp} {a : Addr} {xs : List V} {g : TG} {tb : TS} {D : Ends} {σ : L2.St} (wk : WkA J H0 a xs) (Pv : Nat → L2.St → Hp → Prop) (hsm : ∀ i σ H, Pv i σ H → H a = H0 a) (h0 : Pv 0 σ H)
    (hs : ∀ i x σ H, xs[i]? = some x → Pv i σ H → g x σ H fun σ2 H2 => tb { D with nx := Pv (i + 1), ct := Pv (i + 1), bk := D.nx } σ2 H2) (hd : ∀ σ H, Pv xs.length σ H → D.nx σ H) :
    ∃ W : Nat → Nat → L2.St → Hp → Prop, (∃ m, W 0 m σ H) ∧ ∀ i m σ H, W i m σ H →
      (J.stop i H ∧ D.nx σ H) ∨ (J.go i H ∧ ∃ N : L2.St → Hp → Prop, (∀ σ' H', N σ' H' → ∃ m', m' < m ∧ W (i + 1) m' σ' H') ∧ ∀ x H', J.yld i H x H' → g x σ H' fun σ2 H2 => tb { D with nx := N, ct := N, bk := D.nx } σ2 H2) := by
  refine for_gen Pv h0 (fun i σ H hi p => wk.go i H (hsm i σ H p) hi) (fun σ H p => wk.stop H (hsm _ σ H p)) (fun i x σ H H' hi p y => ?_) hd
  obtain ⟨e, ex⟩ := wk.yld i x H H' (hsm i σ H p) y
  subst e
  exact hs i x σ _ ex p
theorem Sq2.eq {H H' : Hp} {a : Addr} {xs : List V} (h : Sq2 H a xs) (s : Same H H') : H' a = H a := h.elim (fun z => (s _ _ z).trans z.symm) (fun z => (s _ _ z).trans z.symm)
/-! ### data without its dress -/
def Sim (N : Addr → Prop) (H : Hp) : Nat → V → PyData → Prop
  | 0, v, d => Dsc v d
  | n + 1, v, d => Dsc v d ∨ ∃ a xs ds, v = .ref a ∧ N a ∧ Sq2 H a xs ∧ d = .list ds ∧ Paired (Sim N H n) xs ds ∧ ds.length ≤ 1000
theorem Sim.keep {N N' : Addr → Prop} {H H' : Hp} (hn : ∀ a, N a → N' a) (hk : ∀ a o, N a → H a = some o → H' a = some o) : ∀ {n : Nat} {v : V} {d : PyData}, Sim N H n v d → Sim N' H' n v d
  | 0, _, _, h => h
  | n + 1, v, d, h => by
    rcases h with h | ⟨a, xs, ds, e, na, hx, e2, p, l⟩
    · exact .inl h
    · exact .inr ⟨a, xs, ds, e, hn a na, hx.elim (fun z => .inl (hk _ _ na z)) (fun z => .inr (hk _ _ na z)), e2, Paired.imp (fun _ _ z => Sim.keep hn hk z) p, l⟩
theorem Sim.dsc {N : Addr → Prop} {H : Hp} {v : V} {d : PyData} : ∀ {n : Nat}, Dsc v d → Sim N H n v d
  | 0, h => h
  | n + 1, h => .inl h
section
variable {P : Program} {w : World} {K : PySem.W.Frag} {mg : Str → Option Value} {base : Heap}
end
end UP

set_option Elab.async false
set_option linter.all false
set_option maxRecDepth 100000
set_option maxHeartbeats 4000000
namespace UP
open PySem PySem.Spec PyProof.Rows L2
/-! ### waiting items one by one -/
def plS (ws : List Run) (k : Str) (n : Nat) : List Run := match ws with
  | [] => [(k, (n : Int))]
  | r :: t => if r.1 = k then (r :: t) ++ [(k, (n : Int))] else t
def plP (ws : List Run) (k : Str) (n : Nat) : List (Int × Int) := match ws with
  | [] => []
  | r :: _ => if r.1 = k then [] else [(r.2, (n : Int))]
def plA (ws : List Run) (n : Nat) : List Str → List Run
  | [] => ws
  | k :: t => plA (plS ws k n) (n + 1) t
def psR (ws : List Run) (n : Nat) : List Str → List (Int × Int)
  | [] => []
  | k :: t => plP ws k n ++ psR (plS ws k n) (n + 1) t
theorem plA_snoc : ∀ (l : List Str) (ws : List Run) (n : Nat) (k : Str), plA ws n (l ++ [k]) = plS (plA ws n l) k (n + l.length)
  | [], ws, n, k => rfl
  | x :: t, ws, n, k => by
    show plA (plS ws x n) (n + 1) (t ++ [k]) = plS (plA (plS ws x n) (n + 1) t) k (n + (x :: t).length)
    rw [plA_snoc t, List.length_cons, show n + 1 + t.length = n + (t.length + 1) by omega]
theorem psR_snoc : ∀ (l : List Str) (ws : List Run) (n : Nat) (k : Str), psR ws n (l ++ [k]) = psR ws n l ++ plP (plA ws n l) k (n + l.length)
  | [], ws, n, k => by
    show plP ws k n ++ [] = [] ++ plP ws k (n + 0)
    rw [List.append_nil, List.nil_append, Nat.add_zero]
  | x :: t, ws, n, k => by
    show plP ws x n ++ psR (plS ws x n) (n + 1) (t ++ [k]) = (plP ws x n ++ psR (plS ws x n) (n + 1) t) ++ plP (plA (plS ws x n) (n + 1) t) k (n + (x :: t).length)
    rw [psR_snoc t, List.length_cons, List.append_assoc, show n + 1 + t.length = n + (t.length + 1) by omega]
def plMs (ws : List Run) (ks : List Str) : List (List Run) := (List.range (ks.length + 1)).map fun m => plA ws 0 (ks.take m)
theorem plMs_snoc (ws : List Run) (l : List Str) (k : Str) : plMs ws (l ++ [k]) = plMs ws l ++ [plA ws 0 (l ++ [k])] := by
  unfold plMs
  rw [List.length_append, List.length_cons, List.length_nil, Nat.zero_add, List.range_succ, List.map_append]
  congr 1
  · refine List.map_congr_left fun m hm => ?_
    have : m ≤ l.length := by
      have := List.mem_range.mp hm
      omega
    rw [List.take_append_of_le_length this]
  · rw [List.map_singleton, List.take_of_length_le (by rw [List.length_append]; exact Nat.le_refl _)]
theorem plMs_nil (ws : List Run) : plMs ws [] = [ws] := rfl
theorem plMs_len (ws : List Run) (l : List Str) : (plMs ws l).length = l.length + 1 := by
  unfold plMs
  rw [List.length_map, List.length_range]
theorem plS_len (ws : List Run) (k : Str) (n : Nat) : (plS ws k n).length ≤ ws.length + 1 := by
  cases ws with
  | nil => exact Nat.le_refl _
  | cons r t =>
    show (if r.1 = k then (r :: t) ++ [(k, (n : Int))] else t).length ≤ _
    split
    · rw [List.length_append]
      exact Nat.le_refl _
    · rw [List.length_cons]
      omega
theorem plA_len : ∀ (l : List Str) (ws : List Run) (n : Nat), (plA ws n l).length ≤ ws.length + l.length
  | [], ws, n => Nat.le_refl _
  | k :: t, ws, n => by
    have h1 := plA_len t (plS ws k n) (n + 1)
    have h2 := plS_len ws k n
    show (plA (plS ws k n) (n + 1) t).length ≤ _
    rw [List.length_cons]
    omega
theorem plP_len (ws : List Run) (k : Str) (n : Nat) : (plP ws k n).length ≤ 1 := by
  cases ws with
  | nil => exact Nat.zero_le _
  | cons r t =>
    show (if r.1 = k then [] else [(r.2, (n : Int))]).length ≤ 1
    split <;> simp
theorem psR_len : ∀ (l : List Str) (ws : List Run) (n : Nat), (psR ws n l).length ≤ l.length
  | [], ws, n => Nat.le_refl _
  | k :: t, ws, n => by
    have h1 := psR_len t (plS ws k n) (n + 1)
    have h2 := plP_len ws k n
    show (plP ws k n ++ psR (plS ws k n) (n + 1) t).length ≤ _
    rw [List.length_append, List.length_cons]
    omega
theorem plS_kinds {ws : List Run} {k : Str} {n : Nat} (h : ∀ r ∈ ws, KindOk r.1) (hk : KindOk k) : ∀ r ∈ plS ws k n, KindOk r.1 := by
  intro r hr
  cases ws with
  | nil =>
    rw [List.mem_singleton.mp (show r ∈ [(k, (n : Int))] from hr)]
    exact hk
  | cons x t =>
    have hr : r ∈ (if x.1 = k then (x :: t) ++ [(k, (n : Int))] else t) := hr
    by_cases e : x.1 = k
    · rw [if_pos e] at hr
      rcases List.mem_append.mp hr with z | z
      · exact h r z
      · rw [List.mem_singleton.mp z]
        exact hk
    · rw [if_neg e] at hr
      exact h r (List.mem_cons_of_mem _ hr)
theorem plA_kinds : ∀ {l : List Str} {ws : List Run} {n : Nat}, (∀ r ∈ ws, KindOk r.1) → (∀ k ∈ l, KindOk k) → ∀ r ∈ plA ws n l, KindOk r.1
  | [], _, _, h, _ => h
  | k :: t, ws, n, h, hl => plA_kinds (l := t) (plS_kinds h (hl k (List.mem_cons_self ..))) fun x hx => hl x (List.mem_cons_of_mem _ hx)
def w0R : Option Run → List Run
  | none => []
  | some r => List.replicate r.2.toNat (r.1, -1)
def itR (rs : List Run) : List Str := rs.flatMap fun r => List.replicate r.2.toNat r.1
theorem itR_snoc (l : List Run) (r : Run) : itR (l ++ [r]) = itR l ++ List.replicate r.2.toNat r.1 := by
  unfold itR
  rw [List.flatMap_append]
  simp
def PV (H : Hp) (v : V) (p : Int × Int) : Prop := ∃ t, v = .ref t ∧ H t = some (.tup [.int p.1, .int p.2])
theorem PV.same {H H' : Hp} {v : V} {p : Int × Int} (s : Same H H') (h : PV H v p) : PV H' v p := by
  obtain ⟨t, e, h⟩ := h
  exact ⟨t, e, s _ _ h⟩
theorem PV.grow {H : Hp} {D : Addr} {acc acc' : List V} {v : V} {p : Int × Int} (hD : H D = some (.lst acc)) (h : PV H v p) : PV (upd H D (.lst acc')) v p := by
  obtain ⟨t, e, h⟩ := h
  refine ⟨t, e, ?_⟩
  rw [upd_ne (ne_of h hD (by intro q; cases q))]
  exact h
theorem Runs.grow {H : Hp} {D a : Addr} {acc acc' : List V} {ws : List Run} (hD : H D = some (.lst acc)) (n : a ≠ D) (h : Runs H a ws) : Runs (upd H D (.lst acc')) a ws := by
  obtain ⟨xs, hx, hp⟩ := h
  refine ⟨xs, ?_, prs_grow hD hp⟩
  rw [upd_ne n]
  exact hx
/-- a list of runs apart from two others -/
def WL (H : Hp) (M N : Addr) (v : V) (ws : List Run) : Prop := ∃ a, v = .ref a ∧ a ≠ M ∧ a ≠ N ∧ Runs H a ws
theorem WL.same {H H' : Hp} {M N : Addr} {v : V} {ws : List Run} (s : Same H H') (h : WL H M N v ws) : WL H' M N v ws := by
  obtain ⟨a, e, n1, n2, h⟩ := h
  exact ⟨a, e, n1, n2, h.same s⟩
/-- what the play keeps -/
structure Pl (H0 H : Hp) (W M N : Addr) (ws0 : List Run) (ks ls : List Str) : Prop where
  sm : Same H0 H
  wm : W ≠ M
  wn : W ≠ N
  wr : Runs H W (plA ws0 0 ls)
  ms : ∃ xs, H M = some (.lst xs) ∧ Paired (WL H M N) xs (plMs ws0 ks)
  ps : ∃ ys, H N = some (.lst ys) ∧ Paired (PV H) ys (psR ws0 0 ls)
theorem flat_one {α : Type} (x : α) : ∀ n : Nat, (List.replicate n [x]).flatten = List.replicate n x
  | 0 => rfl
  | n + 1 => by
    rw [List.replicate_succ, List.flatten_cons, flat_one x n]
    rfl
theorem paired_rep {α β : Type} {F : α → β → Prop} {a : α} {b : β} (h : F a b) : ∀ n : Nat, Paired F (List.replicate n a) (List.replicate n b)
  | 0 => .nil
  | n + 1 => .cons h (paired_rep h n)
theorem len_items {rs : List Run} (h : ∀ r ∈ rs, 1 ≤ r.2 ∧ r.2 ≤ 1000) : (itR rs).length ≤ 1000 * rs.length := by
  induction rs with
  | nil => exact Nat.le_refl _
  | cons r t ih =>
    have e : itR (r :: t) = List.replicate r.2.toNat r.1 ++ itR t := rfl
    have h1 := h r (List.mem_cons_self ..)
    have h2 := ih fun x hx => h x (List.mem_cons_of_mem _ hx)
    rw [e, List.length_append, List.length_replicate, List.length_cons]
    omega
end UP

set_option Elab.async false
set_option linter.all false
set_option maxRecDepth 100000
set_option maxHeartbeats 4000000
namespace UP
open PySem PySem.Spec PyProof.Rows L2
section
variable {P : Program} {w : World} {K : PySem.W.Frag} {mg : Str → Option Value} {base : Heap}
end
end UP

set_option Elab.async false
set_option linter.all false
set_option maxRecDepth 100000
set_option maxHeartbeats 4000000
namespace UP
open PySem PySem.Spec PyProof.Rows L2
/-! ### one arrival after the other -/
def stI (ks : List Str) (st : Option Run) : Option Run := ks.foldl (fun s k => stepR s k 1) st
theorem stI_app (l m : List Str) (st : Option Run) : stI (l ++ m) st = stI m (stI l st) := List.foldl_append ..
theorem step_same {r : Run} {k : Str} {c : Int} (h : r.1 = k) : stepR (some r) k c = some (k, r.2 + c) := if_pos h
theorem step_other {r : Run} {k : Str} {c : Int} (h : r.1 ≠ k) : stepR (some r) k c = if 0 < r.2 - c then some (r.1, r.2 - c) else if r.2 - c = 0 then none else some (k, -(r.2 - c)) := if_neg h
theorem step_step {s : Option Run} {k : Str} {c : Int} (h : PosO s) (hc : 1 ≤ c) : stepR (stepR s k 1) k c = stepR s k (1 + c) := by
  cases s with
  | none => exact step_same (r := (k, 1)) rfl
  | some r =>
    have r1 := h r rfl
    by_cases e : r.1 = k
    · rw [step_same e, step_same e, step_same (r := (k, r.2 + 1)) rfl]
      show some (k, r.2 + 1 + c) = _
      rw [Int.add_assoc]
    · rw [step_other e, step_other e]
      by_cases h1 : 0 < r.2 - 1
      · rw [if_pos h1, step_other (r := (r.1, r.2 - 1)) e]
        show (if 0 < r.2 - 1 - c then some (r.1, r.2 - 1 - c) else if r.2 - 1 - c = 0 then none else some (k, -(r.2 - 1 - c))) = _
        rw [show r.2 - 1 - c = r.2 - (1 + c) by omega]
      · have e2 : r.2 - 1 = 0 := by omega
        rw [if_neg h1, if_pos e2, if_neg (by omega), if_neg (by omega)]
        show some (k, c) = _
        rw [show -(r.2 - (1 + c)) = c by omega]
theorem it_step : ∀ (n : Nat) (s : Option Run) (k : Str), PosO s → stI (List.replicate (n + 1) k) s = stepR s k ((n : Int) + 1)
  | 0, s, k, _ => rfl
  | n + 1, s, k, h => by
    show stI (List.replicate (n + 1) k) (stepR s k 1) = _
    rw [it_step n _ k (stepR_pos h (by decide)), step_step h (by omega)]
    congr 1
    omega
theorem st_items : ∀ (rs : List Run) (st : Option Run), PosO st → (∀ r ∈ rs, 1 ≤ r.2) → stR rs st = stI (itR rs) st
  | [], st, _, _ => rfl
  | r :: t, st, h, k => by
    have c1 := k r (List.mem_cons_self ..)
    have e : itR (r :: t) = List.replicate r.2.toNat r.1 ++ itR t := rfl
    obtain ⟨n, hn⟩ : ∃ n : Nat, r.2.toNat = n + 1 := ⟨r.2.toNat - 1, by omega⟩
    rw [e, stI_app, hn, it_step n _ _ h, stR_cons, show ((n : Int) + 1) = r.2 by omega]
    exact st_items t _ (stepR_pos h c1) fun x hx => k x (List.mem_cons_of_mem _ hx)
theorem take_app {α : Type} : ∀ (l m : List α) (n : Nat), (l ++ m).take n = l.take n ++ m.take (n - l.length)
  | [], m, n => by
    rw [List.nil_append, List.take_nil, List.nil_append, List.length_nil, Nat.sub_zero]
  | x :: t, m, 0 => by
    rw [List.take_zero, List.take_zero, Nat.zero_sub, List.take_zero]
    rfl
  | x :: t, m, n + 1 => by
    rw [List.cons_append, List.take_succ_cons, take_app t m n, List.take_succ_cons, List.length_cons, Nat.add_sub_add_right]
    rfl
theorem it_app (l m : List Run) : itR (l ++ m) = itR l ++ itR m := List.flatMap_append ..
theorem cut_items (e : Int) : ∀ (rs : List Run) (b : Int), 0 ≤ b → (∀ r ∈ rs, 1 ≤ r.2) → itR (cutR 0 e b rs) = (itR rs).take (e - b).toNat
  | [], b, _, _ => by
    show ([] : List Str) = ([] : List Str).take _
    rw [List.take_nil]
  | r :: t, b, hb, k => by
    have c1 := k r (List.mem_cons_self ..)
    have ih := cut_items e t (b + r.2) (by omega) fun x hx => k x (List.mem_cons_of_mem _ hx)
    have e1 : cutR 0 e b (r :: t) = pieceR b 0 e r ++ cutR 0 e (b + r.2) t := rfl
    have e2 : itR (r :: t) = List.replicate r.2.toNat r.1 ++ itR t := rfl
    rw [e1, it_app, ih, e2, take_app, List.length_replicate, List.take_replicate, show (e - (b + r.2)).toNat = (e - b).toNat - r.2.toNat by omega]
    congr 1
    have es : sizeR b 0 e r.2 = (if b + r.2 < e then b + r.2 else e) - b := by
      unfold sizeR
      by_cases h0 : b > 0
      · rw [if_pos h0]
      · rw [if_neg h0, show b = 0 by omega]
    by_cases hs : 0 < sizeR b 0 e r.2
    · rw [show pieceR b 0 e r = [(r.1, sizeR b 0 e r.2)] from if_pos hs]
      show List.replicate (sizeR b 0 e r.2).toNat r.1 ++ [] = _
      rw [List.append_nil]
      congr 1
      rw [es] at hs ⊢
      split <;> omega
    · rw [show pieceR b 0 e r = [] from if_neg hs]
      rw [es] at hs
      rw [show min (e - b).toNat r.2.toNat = 0 by split at hs <;> omega]
      rfl
theorem len_it : ∀ (rs : List Run), (∀ r ∈ rs, 1 ≤ r.2) → ((itR rs).length : Int) = lenR rs
  | [], _ => rfl
  | r :: t, k => by
    have c1 := k r (List.mem_cons_self ..)
    have ih := len_it t fun x hx => k x (List.mem_cons_of_mem _ hx)
    have e2 : itR (r :: t) = List.replicate r.2.toNat r.1 ++ itR t := rfl
    rw [e2, List.length_append, List.length_replicate, lenR_cons]
    omega
/-! ### what is told of waiting items -/
def Uni (ws : List Run) : Prop := ∀ x ∈ ws, ∀ y ∈ ws, x.1 = y.1
theorem uni_plS {ws : List Run} {k : Str} {n : Nat} (h : Uni ws) : Uni (plS ws k n) := by
  cases ws with
  | nil =>
    intro x hx y hy
    rw [List.mem_singleton.mp (show x ∈ [(k, (n : Int))] from hx), List.mem_singleton.mp (show y ∈ [(k, (n : Int))] from hy)]
  | cons r t =>
    by_cases e : r.1 = k
    · rw [show plS (r :: t) k n = (r :: t) ++ [(k, (n : Int))] from if_pos e]
      have all : ∀ x ∈ (r :: t) ++ [(k, (n : Int))], x.1 = k := by
        intro x hx
        rcases List.mem_append.mp hx with z | z
        · rw [h x z r (List.mem_cons_self ..)]
          exact e
        · rw [List.mem_singleton.mp z]
      intro x hx y hy
      rw [all x hx, all y hy]
    · rw [show plS (r :: t) k n = t from if_neg e]
      exact fun x hx y hy => h x (List.mem_cons_of_mem _ hx) y (List.mem_cons_of_mem _ hy)
theorem told_plS {ws : List Run} {k : Str} {n : Nat} (h : Uni ws) : toldR (plS ws k n) = stepR (toldR ws) k 1 := by
  cases ws with
  | nil => rfl
  | cons r t =>
    by_cases e : r.1 = k
    · rw [show plS (r :: t) k n = (r :: t) ++ [(k, (n : Int))] from if_pos e]
      show some (r.1, (((r :: t) ++ [(k, (n : Int))]).length : Int)) = stepR (some (r.1, ((r :: t).length : Int))) k 1
      rw [step_same (r := (r.1, ((r :: t).length : Int))) e, List.length_append, e]
      show some (k, (((r :: t).length + 1 : Nat) : Int)) = some (k, ((r :: t).length : Int) + 1)
      rw [Int.natCast_add]
      rfl
    · rw [show plS (r :: t) k n = t from if_neg e]
      show toldR t = stepR (some (r.1, ((r :: t).length : Int))) k 1
      rw [step_other (r := (r.1, ((r :: t).length : Int))) e]
      cases t with
      | nil => rfl
      | cons x u =>
        have ex : x.1 = r.1 := h x (List.mem_cons_of_mem _ (List.mem_cons_self ..)) r (List.mem_cons_self ..)
        show some (x.1, ((x :: u).length : Int)) = if 0 < ((r :: x :: u).length : Int) - 1 then some (r.1, ((r :: x :: u).length : Int) - 1) else _
        rw [List.length_cons, List.length_cons, List.length_cons, if_pos (by omega), ex]
        congr 2
        omega
theorem told_plA : ∀ (l : List Str) (ws : List Run) (n : Nat), Uni ws → toldR (plA ws n l) = stI l (toldR ws)
  | [], _, _, _ => rfl
  | k :: t, ws, n, h => by
    show toldR (plA (plS ws k n) (n + 1) t) = stI t (stepR (toldR ws) k 1)
    rw [told_plA t _ _ (uni_plS h), told_plS h]
theorem uni_w0 (st : Option Run) : Uni (w0R st) := by
  cases st with
  | none => intro x hx; cases hx
  | some r =>
    intro x hx y hy
    rw [List.eq_of_mem_replicate hx, List.eq_of_mem_replicate hy]
theorem told_w0 {st : Option Run} (h : PosO st) : toldR (w0R st) = st := by
  cases st with
  | none => rfl
  | some r =>
    have r1 := h r rfl
    obtain ⟨n, hn⟩ : ∃ n : Nat, r.2.toNat = n + 1 := ⟨r.2.toNat - 1, by omega⟩
    show toldR (List.replicate r.2.toNat (r.1, (-1 : Int))) = some r
    rw [hn, List.replicate_succ]
    show some (r.1, (((r.1, (-1 : Int)) :: List.replicate n (r.1, (-1 : Int))).length : Int)) = some r
    rw [List.length_cons, List.length_replicate, show ((n + 1 : Nat) : Int) = r.2 by omega]
/-! ### all counts multiplied -/
def scO (t : Int) (st : Option Run) : Option Run := st.map fun r => (r.1, r.2 * t)
theorem lt_sc {a b t : Int} (ht : 0 < t) : a * t < b * t ↔ a < b :=
  ⟨fun h => by
    by_cases z : a < b
    · exact z
    · have := Int.mul_le_mul_of_nonneg_right (show b ≤ a by omega) (Int.le_of_lt ht)
      omega, fun h => Int.mul_lt_mul_of_pos_right h ht⟩
theorem size_sc {b s e c t : Int} (ht : 0 < t) : sizeR (b * t) (s * t) (e * t) (c * t) = sizeR b s e c * t := by
  unfold sizeR
  rw [← Int.add_mul, Int.sub_mul]
  congr 1
  · by_cases h : b + c < e
    · rw [if_pos h, if_pos ((lt_sc ht).mpr h)]
    · rw [if_neg h, if_neg fun z => h ((lt_sc ht).mp z)]
  · by_cases h : b > s
    · rw [if_pos h, if_pos ((lt_sc ht).mpr h)]
    · rw [if_neg h, if_neg fun z => h ((lt_sc ht).mp z)]
theorem pos_sc {a t : Int} (ht : 0 < t) : 0 < a * t ↔ 0 < a := by
  have := lt_sc (a := 0) (b := a) ht
  rw [Int.zero_mul] at this
  exact this
theorem piece_sc {b s e t : Int} {r : Run} (ht : 0 < t) : pieceR (b * t) (s * t) (e * t) (r.1, r.2 * t) = scR t (pieceR b s e r) := by
  unfold pieceR
  show (if 0 < sizeR (b * t) (s * t) (e * t) (r.2 * t) then [(r.1, sizeR (b * t) (s * t) (e * t) (r.2 * t))] else []) = _
  rw [size_sc ht]
  by_cases h : 0 < sizeR b s e r.2
  · rw [if_pos h, if_pos ((pos_sc ht).mpr h)]
    rfl
  · rw [if_neg h, if_neg fun z => h ((pos_sc ht).mp z)]
    rfl
theorem cut_sc {s e t : Int} (ht : 0 < t) : ∀ (rs : List Run) (b : Int), cutR (s * t) (e * t) (b * t) (scR t rs) = scR t (cutR s e b rs)
  | [], _ => rfl
  | r :: u, b => by
    have ih := cut_sc (s := s) (e := e) ht u (b + r.2)
    show pieceR (b * t) (s * t) (e * t) (r.1, r.2 * t) ++ cutR (s * t) (e * t) (b * t + r.2 * t) (scR t u) = scR t (pieceR b s e r ++ cutR s e (b + r.2) u)
    rw [← Int.add_mul, ih, piece_sc ht]
    unfold scR
    rw [List.map_append]
theorem step_sc {st : Option Run} {k : Str} {c t : Int} (ht : 0 < t) : stepR (scO t st) k (c * t) = scO t (stepR st k c) := by
  cases st with
  | none => rfl
  | some r =>
    show stepR (some (r.1, r.2 * t)) k (c * t) = _
    by_cases e : r.1 = k
    · rw [step_same (r := (r.1, r.2 * t)) e, step_same e]
      show some (k, r.2 * t + c * t) = some (k, (r.2 + c) * t)
      rw [Int.add_mul]
    · rw [step_other (r := (r.1, r.2 * t)) e, step_other e]
      show (if 0 < r.2 * t - c * t then some (r.1, r.2 * t - c * t) else if r.2 * t - c * t = 0 then none else some (k, -(r.2 * t - c * t))) = _
      rw [← Int.sub_mul]
      by_cases h : 0 < r.2 - c
      · rw [if_pos h, if_pos ((pos_sc ht).mpr h)]
        rfl
      · rw [if_neg h, if_neg fun z => h ((pos_sc ht).mp z)]
        by_cases h2 : r.2 - c = 0
        · rw [if_pos h2, h2, Int.zero_mul, if_pos rfl]
          rfl
        · have h3 : (r.2 - c) * t ≠ 0 := Int.mul_ne_zero h2 (by omega)
          rw [if_neg h2, if_neg h3]
          show some (k, -((r.2 - c) * t)) = some (k, -(r.2 - c) * t)
          rw [Int.neg_mul]
theorem st_sc {t : Int} (ht : 0 < t) : ∀ (rs : List Run) (st : Option Run), stR (scR t rs) (scO t st) = scO t (stR rs st)
  | [], _ => rfl
  | r :: u, st => by
    show stR (scR t u) (stepR (scO t st) r.1 (r.2 * t)) = scO t (stR u (stepR st r.1 r.2))
    rw [step_sc ht, st_sc ht u]
theorem len_sc {t : Int} : ∀ (rs : List Run), lenR (scR t rs) = lenR rs * t
  | [] => by
    show (0 : Int) = 0 * t
    rw [Int.zero_mul]
  | r :: u => by
    show lenR ((r.1, r.2 * t) :: scR t u) = _
    rw [lenR_cons, lenR_cons, len_sc u, Int.add_mul]
/-- the multiplied state at a multiplied moment -/
theorem whole_sc {t : Int} {rs : List Run} {st : Option Run} {p : Nat} (ht : 0 < t) (h : PosO st) (k : ∀ r ∈ rs, 1 ≤ r.2) :
    stR (cutR 0 ((p : Int) * t) 0 (scR t rs)) (scO t st) = scO t (toldR (plA (w0R st) 0 ((itR rs).take p))) := by
  have e := cut_sc (s := 0) (e := (p : Int)) ht rs 0
  rw [Int.zero_mul] at e
  rw [e, st_sc ht, told_plA _ _ _ (uni_w0 st), told_w0 h, st_items _ _ h cutR_pos, cut_items _ _ _ (Int.le_refl _) k, Int.sub_zero, Int.toNat_natCast]
end UP

set_option Elab.async false
set_option linter.all false
set_option maxRecDepth 100000
set_option maxHeartbeats 4000000
namespace UP
open PySem PySem.Spec PyProof.Rows L2
theorem room70 {A : Around} {k : Nat} (hr : Room k A) : A.units + 70 < cLine := by
  have := hr.un
  omega
theorem call_list_ofK {X : Cx} {K : PySem.W.Frag} (h : X.K = K) : CallR X (.type "list") (fun xs H Q => ∃ p ys, xs = [.ref p] ∧ (SqL K H p ys ∨ SqT K H p ys) ∧ ∀ l, H l = none → Q (.ref l) (upd H l (.lst ys))) := by
  subst h
  exact call_list_of
/-! ### data that a repr takes -/
structure Nice (w n : Nat) (d : PyData) : Prop where
  can : d.canLay0 = true
  dep : d.depth ≤ n
  sho : d.showable = true
  lea : d.leavesShort 100 = true
  wei : d.weight ≤ w
theorem Nice.mono {w w' n n' : Nat} {d : PyData} (h : Nice w n d) (h1 : w ≤ w') (h2 : n ≤ n') : Nice w' n' d := ⟨h.can, Nat.le_trans h.dep h2, h.sho, h.lea, Nat.le_trans h.wei h1⟩
theorem Nice.fits {w n : Nat} {d : PyData} (h : Nice w n d) (hw : w ≤ 150000) (hn : n ≤ 64) : d.showable = true ∧ SeqAt.shaped d = true ∧ d.shown.length ≤ sizeLine := by
  refine ⟨h.sho, ?_, ?_⟩
  · unfold SeqAt.shaped
    rw [h.can]
    have := h.dep
    exact decide_eq_true (by omega)
  · have h1 := PyData.shown_le 100 (by decide) d h.lea
    have h2 := h.wei
    have h3 : d.shown.length ≤ 16000000 := by omega
    exact Nat.le_trans h3 (by decide)
theorem nice_none : Nice 0 0 .none := ⟨rfl, Nat.le_refl _, rfl, rfl, Nat.le_refl _⟩
theorem nice_str {s : Str} (h : KindOk s) : Nice 8 0 (.str s) := by
  refine ⟨?_, Nat.le_refl _, rfl, ?_, h.2.1⟩
  · rw [PyData.canLay0]
    exact h.str
  · rw [PyData.leavesShort, List.all_eq_true]
    intro c hc
    have := h.2.2 c hc
    exact decide_eq_true (by omega)
theorem nice_int {i : Int} (h : i.natAbs < 10 ^ 60) : Nice 201 0 (.int i) := by
  have h2 : i.natAbs < 2 ^ 200 := Nat.lt_of_lt_of_le h (by decide)
  have h3 : i.natAbs.log2 < 200 := by
    by_cases z : i.natAbs = 0
    · rw [z]
      decide
    · exact (Nat.log2_lt z).mpr h2
  refine ⟨by rw [PyData.canLay0], Nat.le_refl _, ?_, ?_, ?_⟩
  · rw [PyData.showable]
    exact decide_eq_true (by omega)
  · rw [PyData.leavesShort]
    refine decide_eq_true ?_
    have e := int_text_length_le10 (k := 60) (by decide) h
    show (Str.ofString (toString i)).length ≤ 100
    rw [PySem.ofString_length]
    omega
  · rw [PyData.weight]
    split <;> omega
theorem nice_items {w n : Nat} : ∀ {ds : List PyData}, (∀ d ∈ ds, Nice w n d) → PyData.canLayAll0 ds = true ∧ PyData.depthAll ds ≤ n ∧ PyData.showableAll ds = true ∧ PyData.leavesShortAll 100 ds = true ∧ PyData.weightAll ds ≤ (w + 1) * ds.length
  | [], _ => ⟨rfl, Nat.zero_le _, rfl, rfl, Nat.zero_le _⟩
  | d :: t, h => by
    have h1 := h d (List.mem_cons_self ..)
    obtain ⟨a, b, c, e, f⟩ := nice_items (ds := t) fun x hx => h x (List.mem_cons_of_mem _ hx)
    refine ⟨?_, ?_, ?_, ?_, ?_⟩
    · rw [PyData.canLayAll0, h1.can, a]
      rfl
    · rw [PyData.depthAll]
      exact Nat.max_le.mpr ⟨h1.dep, b⟩
    · rw [PyData.showableAll, h1.sho, c]
      rfl
    · rw [PyData.leavesShortAll, h1.lea, e]
      rfl
    · have h2 := h1.wei
      rw [PyData.weightAll, List.length_cons, Nat.mul_succ]
      omega
theorem nice_list {w n : Nat} {ds : List PyData} (h : ∀ d ∈ ds, Nice w n d) : Nice ((w + 1) * ds.length) (n + 1) (.list ds) := by
  obtain ⟨a, b, c, e, f⟩ := nice_items h
  exact ⟨by rw [PyData.canLay0]; exact a, by rw [PyData.depth]; omega, by rw [PyData.showable]; exact c, by rw [PyData.leavesShort]; exact e, by rw [PyData.weight]; exact f⟩
theorem nice_tup {w n : Nat} {ds : List PyData} (h : ∀ d ∈ ds, Nice w n d) : Nice ((w + 1) * ds.length) (n + 1) (.tuple ds) := by
  obtain ⟨a, b, c, e, f⟩ := nice_items h
  exact ⟨by rw [PyData.canLay0]; exact a, by rw [PyData.depth]; omega, by rw [PyData.showable]; exact c, by rw [PyData.leavesShort]; exact e, by rw [PyData.weight]; exact f⟩
/-- v stands for d at H and at every heap that keeps H -/
def DpS (K : PySem.W.Frag) (H : Hp) (v : V) (d : PyData) : Prop := ∀ H', Same H H' → Dp K H' v d
theorem DpS.same {K : PySem.W.Frag} {H H' : Hp} {v : V} {d : PyData} (s : Same H H') (h : DpS K H v d) : DpS K H' v d := fun H2 s2 => h H2 (s.trans s2)
theorem dps_all {K : PySem.W.Frag} {H : Hp} {F : PyData → Prop} : ∀ {xs : List V}, (∀ x ∈ xs, ∃ d, DpS K H x d ∧ F d) → ∃ ds, (∀ H', Same H H' → DpAll K H' xs ds) ∧ ds.length = xs.length ∧ ∀ d ∈ ds, F d
  | [], _ => ⟨[], fun _ _ => .nil, rfl, fun d h => by cases h⟩
  | x :: t, h => by
    obtain ⟨d, h1, h2⟩ := h x (List.mem_cons_self ..)
    obtain ⟨ds, a, b, c⟩ := dps_all (xs := t) fun y hy => h y (List.mem_cons_of_mem _ hy)
    refine ⟨d :: ds, fun H' s => .cons (h1 H' s) (a H' s), congrArg Nat.succ b, fun z hz => ?_⟩
    rcases List.mem_cons.mp hz with e | e
    · rw [e]
      exact h2
    · exact c z e
theorem dps_seq {K : PySem.W.Frag} {H : Hp} {a : Addr} {xs : List V} {w n : Nat} (hx : Sq2 H a xs) (h : ∀ x ∈ xs, ∃ d, DpS K H x d ∧ Nice w n d) : ∃ d, DpS K H (.ref a) d ∧ Nice ((w + 1) * xs.length) (n + 1) d := by
  obtain ⟨ds, h1, h2, h3⟩ := dps_all h
  rcases hx with z | z
  · exact ⟨.list ds, fun H' s => .lst (.of (s _ _ z)) (h1 H' s), by rw [← h2]; exact nice_list h3⟩
  · exact ⟨.tuple ds, fun H' s => .tup (.of (s _ _ z)) (h1 H' s), by rw [← h2]; exact nice_tup h3⟩
theorem dps_run {K : PySem.W.Frag} {H : Hp} {v : V} {r : Run} (h : RunG H v r) (k : KindOk r.1) (c : r.2.natAbs < 10 ^ 60) : ∃ d, DpS K H v d ∧ Nice 404 1 d := by
  obtain ⟨t, rfl, h⟩ := h
  have := dps_seq (K := K) (w := 201) (n := 0) h fun x hx => by
    rcases List.mem_cons.mp hx with e | e
    · rw [e]
      exact ⟨.str r.1, fun _ _ => .str _, (nice_str k).mono (by decide) (Nat.le_refl _)⟩
    · rw [List.mem_singleton.mp e]
      exact ⟨.int r.2, fun _ _ => .int _, nice_int c⟩
  exact this
theorem dps_runs {K : PySem.W.Frag} {H : Hp} {v : V} {rs : List Run} (h : RunsG H v rs) (k : ∀ r ∈ rs, KindOk r.1 ∧ r.2.natAbs < 10 ^ 60) (l : rs.length ≤ 100) : ∃ d, DpS K H v d ∧ Nice 41000 2 d := by
  obtain ⟨a, xs, rfl, hx, hp⟩ := h
  have lx : xs.length = rs.length := Paired.len hp
  obtain ⟨d, h1, h2⟩ := dps_seq (K := K) (w := 404) (n := 1) hx fun x hx => by
    obtain ⟨i, hi, e⟩ := List.mem_iff_getElem.mp hx
    obtain ⟨r, er, hr⟩ := Paired.at hp (List.getElem?_eq_getElem hi)
    rw [e] at hr
    have := k r (List.mem_of_getElem? er)
    exact dps_run hr this.1 this.2
  exact ⟨d, h1, h2.mono (by rw [lx]; omega) (Nat.le_refl _)⟩
theorem dps_st {K : PySem.W.Frag} {H : Hp} {v : V} {st : Option Run} (h : StG H v st) (k : ∀ r, st = some r → KindOk r.1 ∧ r.2.natAbs < 10 ^ 60) : ∃ d, DpS K H v d ∧ Nice 41000 2 d := by
  cases st with
  | none =>
    cases h
    exact ⟨.none, fun _ _ => .non, nice_none.mono (by decide) (by decide)⟩
  | some r =>
    obtain ⟨d, h1, h2⟩ := dps_run (K := K) h (k r rfl).1 (k r rfl).2
    exact ⟨d, h1, h2.mono (by decide) (by decide)⟩
theorem dps_two {K : PySem.W.Frag} {H : Hp} {a : Addr} {x y : V} (h : H a = some (.lst [x, y])) (hx : ∃ d, DpS K H x d ∧ Nice 41000 2 d) (hy : ∃ d, DpS K H y d ∧ Nice 41000 2 d) : ∃ d, DpS K H (.ref a) d ∧ Nice 82002 3 d := by
  have := dps_seq (K := K) (a := a) (xs := [x, y]) (w := 41000) (n := 2) (.inl h) fun z hz => by
    rcases List.mem_cons.mp hz with e | e
    · rw [e]
      exact hx
    · rw [List.mem_singleton.mp e]
      exact hy
  exact this
/-! ### dressed and undressed -/
def dP (r : Run) : PyData := .list [.str r.1, .int r.2]
def dSq (rs : List Run) : PyData := .list (rs.map dP)
def dSt : Option Run → PyData
  | none => .none
  | some r => dP r
theorem sim_pair {N : Addr → Prop} {H : Hp} {n : Nat} (r : Run) : Paired (Sim N H n) [V.str r.1, V.int r.2] [PyData.str r.1, PyData.int r.2] := .cons (Sim.dsc (.inr (.inr (.inr ⟨_, rfl, rfl⟩)))) (.cons (Sim.dsc (.inr (.inr (.inl ⟨_, rfl, rfl⟩)))) .nil)
theorem sim_run {H : Hp} {sp : Addr} {v : V} {r : Run} {n : Nat} (z : Spr H sp) (h : RunV H v r) : Sim (· ≠ sp) H (n + 1) v (dP r) := by
  obtain ⟨t, rfl, h⟩ := h
  obtain ⟨_, _, _, hs, _⟩ := z
  exact .inr ⟨t, _, _, rfl, ne_of h hs (by intro q; cases q), .inr h, rfl, sim_pair r, Nat.le_of_ble_eq_true rfl⟩
theorem sim_seq {H : Hp} {sp a : Addr} {rs : List Run} (z : Spr H sp) (h : Runs H a rs) (l : rs.length ≤ 1000) : Sim (· ≠ sp) H 2 (.ref a) (dSq rs) := by
  have na := Runs.ne z h
  obtain ⟨xs, hx, hp⟩ := h
  refine .inr ⟨a, xs, _, rfl, na, .inl hx, rfl, ?_, by rw [List.length_map]; exact l⟩
  have gen : ∀ {xs : List V} {rs : List Run}, Paired (RunV H) xs rs → Paired (Sim (· ≠ sp) H 1) xs (rs.map dP) := by
    intro xs rs h
    induction h with
    | nil => exact .nil
    | cons h _ ih => exact .cons (sim_run z h) ih
  exact gen hp
theorem sim_st {H : Hp} {sp : Addr} {v : V} {st : Option Run} (z : Spr H sp) (h : StV H v st) : Sim (· ≠ sp) H 2 v (dSt st) := by
  cases st with
  | none =>
    cases h
    exact .inl (.inl ⟨rfl, rfl⟩)
  | some r => exact sim_run z h
theorem sim_one {N : Addr → Prop} {H : Hp} {n : Nat} {v : V} {r : Run} (h : Sim N H (n + 1) v (dP r)) : RunG H v r := by
  rcases h with h | ⟨a, xs, ds, rfl, _, hx, e, p, _⟩
  · exact (dsc_lst h).elim
  · cases e
    have scal : ∀ {m : Nat} {x : V} {s : Str}, Sim N H m x (.str s) → x = .str s := by
      intro m x s h
      have h : Dsc x (.str s) := by
        cases m with
        | zero => exact h
        | succ m =>
          rcases h with h | ⟨_, _, _, _, _, _, e, _⟩
          · exact h
          · cases e
      rcases h with ⟨_, e⟩ | ⟨_, _, e⟩ | ⟨_, _, e⟩ | ⟨y, e1, e⟩ <;> cases e
      exact e1
    have scai : ∀ {m : Nat} {x : V} {s : Int}, Sim N H m x (.int s) → x = .int s := by
      intro m x s h
      have h : Dsc x (.int s) := by
        cases m with
        | zero => exact h
        | succ m =>
          rcases h with h | ⟨_, _, _, _, _, _, e, _⟩
          · exact h
          · cases e
      rcases h with ⟨_, e⟩ | ⟨_, _, e⟩ | ⟨y, e1, e⟩ | ⟨_, _, e⟩ <;> cases e
      exact e1
    cases p with
    | cons h1 p1 =>
      cases p1 with
      | cons h2 p2 =>
        cases p2
        rw [scal h1, scai h2] at hx
        exact ⟨a, rfl, hx⟩
theorem sim_all {N : Addr → Prop} {H : Hp} : ∀ (rs : List Run) (xs : List V), Paired (Sim N H 1) xs (rs.map dP) → Paired (RunG H) xs rs
  | [], xs, h => by
    cases h
    exact .nil
  | r :: t, xs, h => by
    cases h with
    | cons h1 h2 => exact .cons (sim_one h1) (sim_all t _ h2)
theorem sim_runs {N : Addr → Prop} {H : Hp} {v : V} {rs : List Run} (h : Sim N H 2 v (dSq rs)) : RunsG H v rs := by
  rcases h with h | ⟨a, xs, ds, rfl, _, hx, e, p, _⟩
  · exact (dsc_lst h).elim
  · cases e
    refine ⟨a, xs, rfl, hx, ?_⟩
    exact sim_all rs xs p
theorem sim_stg {N : Addr → Prop} {H : Hp} {v : V} {st : Option Run} (h : Sim N H 2 v (dSt st)) : StG H v st := by
  cases st with
  | none =>
    rcases h with h | ⟨_, _, _, _, _, _, e, _⟩
    · rcases h with ⟨e, _⟩ | ⟨_, _, e⟩ | ⟨_, _, e⟩ | ⟨_, _, e⟩
      · exact e
      all_goals cases e
    · cases e
  | some r => exact sim_one h
/-! ### one by one -/
theorem at_moment {rs : List Run} {st : Option Run} {m : Nat} (h : PosO st) (k : ∀ r ∈ rs, 1 ≤ r.2) : stR (cutR 0 (m : Int) 0 rs) st = toldR (plA (w0R st) 0 ((itR rs).take m)) := by
  rw [told_plA _ _ _ (uni_w0 st), told_w0 h, st_items _ _ h cutR_pos, cut_items _ _ _ (Int.le_refl _) k, Int.sub_zero, Int.toNat_natCast]
theorem at_end {rs : List Run} {st : Option Run} (h : PosO st) (k : ∀ r ∈ rs, 1 ≤ r.2) : stR rs st = toldR (plA (w0R st) 0 (itR rs)) := by
  rw [told_plA _ _ _ (uni_w0 st), told_w0 h, st_items _ _ h k]
theorem plMs_get (ws : List Run) (ks : List Str) {n : Nat} (h : n ≤ ks.length) : (plMs ws ks)[n]? = some (plA ws 0 (ks.take n)) := by
  unfold plMs
  rw [List.getElem?_map, List.getElem?_range (by omega)]
  rfl
def dO : Option Run → PyData
  | none => .none
  | some r => dRun r
theorem dt_st {H : Hp} {v : V} {st : Option Run} {n : Nat} (h : StV H v st) : Dt H (n + 1) v (dO st) := by
  cases st with
  | none =>
    cases h
    exact .inl (.inl ⟨rfl, rfl⟩)
  | some r =>
    obtain ⟨t, rfl, h⟩ := h
    refine .inr (.inr ⟨t, _, _, rfl, h, rfl, .cons ?_ (.cons ?_ .nil), Nat.le_of_ble_eq_true rfl⟩)
    · cases n with
      | zero => exact .inr (.inr (.inr ⟨_, rfl, rfl⟩))
      | succ m => exact .inl (.inr (.inr (.inr ⟨_, rfl, rfl⟩)))
    · cases n with
      | zero => exact .inr (.inr (.inl ⟨_, rfl, rfl⟩))
      | succ m => exact .inl (.inr (.inr (.inl ⟨_, rfl, rfl⟩)))
theorem w0_len {st : Option Run} (h : ∀ r, st = some r → r.2 ≤ 1000) : (w0R st).length ≤ 1000 := by
  cases st with
  | none => exact Nat.zero_le _
  | some r =>
    have := h r rfl
    show (List.replicate r.2.toNat (r.1, (-1 : Int))).length ≤ 1000
    rw [List.length_replicate]
    omega
theorem w0_kinds {st : Option Run} (h : StOk st) : ∀ r ∈ w0R st, KindOk r.1 := by
  cases st with
  | none => intro r h; cases h
  | some x =>
    intro r hr
    rw [List.eq_of_mem_replicate hr]
    exact (h x rfl).1
theorem it_kinds {rs : List Run} (h : ∀ r ∈ rs, KindOk r.1) : ∀ k ∈ itR rs, KindOk k := by
  intro k hk
  obtain ⟨r, h1, h2⟩ := List.mem_flatMap.mp hk
  rw [List.eq_of_mem_replicate h2]
  exact h r h1
end UP

set_option Elab.async false
set_option linter.all false
set_option maxRecDepth 100000
set_option maxHeartbeats 4000000
namespace UP
open PySem PySem.Spec PyProof.Rows L2
theorem paired_snoc {α β : Type} {F : α → β → Prop} : ∀ {xs : List α} (l : List β) (y : β), Paired F xs (l ++ [y]) → ∃ xs0 x, xs = xs0 ++ [x] ∧ Paired F xs0 l ∧ F x y
  | _, [], y, h => by
    cases h with
    | cons h1 h2 =>
      cases h2
      exact ⟨[], _, rfl, .nil, h1⟩
  | _, z :: l, y, h => by
    cases h with
    | cons h1 h2 =>
      obtain ⟨xs0, x, e, h3, h4⟩ := paired_snoc l y h2
      exact ⟨_ :: xs0, x, by rw [e]; rfl, .cons h1 h3, h4⟩
theorem set_last {α : Type} : ∀ (l : List α) (x y : α), (l ++ [x]).set l.length y = l ++ [y]
  | [], _, _ => rfl
  | z :: l, x, y => congrArg (z :: ·) (set_last l x y)
theorem ixN_last {n : Nat} : ixN (n + 1) (-1) = some n := by
  unfold ixN
  simp
  omega
/-! ### one more run -/
def addR (rs : List Run) (r : Run) : List Run := match rs.getLast? with
  | none => [r]
  | some l => if l.1 = r.1 then rs.dropLast ++ [(r.1, l.2 + r.2)] else rs ++ [r]
def joinR (rs cs : List Run) : List Run := cs.foldl addR rs
theorem joinR_snoc (rs cs : List Run) (r : Run) : joinR rs (cs ++ [r]) = addR (joinR rs cs) r := by
  unfold joinR
  rw [List.foldl_append]
  rfl
theorem addR_len (rs : List Run) (r : Run) : (addR rs r).length ≤ rs.length + 1 := by
  unfold addR
  split
  · exact Nat.le_add_left _ _
  · split
    · rw [List.length_append, List.length_dropLast]
      simp only [List.length_cons, List.length_nil]
      omega
    · rw [List.length_append]
      exact Nat.le_refl _
theorem joinR_len : ∀ (cs rs : List Run), (joinR rs cs).length ≤ rs.length + cs.length
  | [], _ => Nat.le_refl _
  | c :: t, rs => by
    have h1 := joinR_len t (addR rs c)
    have h2 := addR_len rs c
    show (joinR (addR rs c) t).length ≤ _
    rw [List.length_cons]
    omega
theorem RunV.butL {H H' : Hp} {p : Addr} {xs : List V} {v : V} {r : Run} (hp : H p = some (.lst xs)) (b : But p H H') (h : RunV H v r) : RunV H' v r := by
  obtain ⟨t, e, h⟩ := h
  exact ⟨t, e, b _ _ (ne_of h hp (by intro q; cases q)) h⟩
section
variable {P : Program} {w : World} {K : PySem.W.Frag} {mg : Str → Option Value} {base : Heap}
end
end UP

set_option Elab.async false
set_option linter.all false
set_option maxRecDepth 100000
set_option maxHeartbeats 4000000
namespace UP
open PySem PySem.Spec PyProof.Rows L2
def runR (ks : List Str) : List Run := ks.foldl (fun rs k => addR rs (k, 1)) []
theorem runR_snoc (ks : List Str) (k : Str) : runR (ks ++ [k]) = addR (runR ks) (k, 1) := by
  unfold runR
  rw [List.foldl_append]
  rfl
theorem runR_len (ks : List Str) : (runR ks).length ≤ ks.length := by
  have gen : ∀ (ks : List Str) (rs : List Run), (ks.foldl (fun rs k => addR rs (k, 1)) rs).length ≤ rs.length + ks.length := by
    intro ks
    induction ks with
    | nil => intro rs; exact Nat.le_refl _
    | cons k t ih =>
      intro rs
      have h1 := ih (addR rs (k, 1))
      have h2 := addR_len rs (k, 1)
      show (t.foldl (fun rs k => addR rs (k, 1)) (addR rs (k, 1))).length ≤ _
      rw [List.length_cons]
      omega
  have := gen ks []
  rw [List.length_nil, Nat.zero_add] at this
  exact this
section
variable {P : Program} {w : World} {K : PySem.W.Frag} {mg : Str → Option Value} {base : Heap}
/-! checked_short_runs: slots 0:sequence 1:runs -/
abbrev s_checked_short_runs : Stmt := topS 37
theorem sc_checked_short_runs : FnScope ["sequence", "runs"] ["sequence"] (defScope s_checked_short_runs) := ⟨rfl, rfl, rfl, by decide +kernel, rfl, by decide +kernel, by decide +kernel⟩
def sp_checked_short_runs : Sp := fun vs H Q _ => ∃ (av : V) (rs : List Run), vs = [av] ∧ RunsG H av rs ∧ SeqOk rs ∧ lenR rs ≤ 400 ∧ ∀ H' p, Same H H' → H p = none → Runs H' p rs → Q (.ref p) H'
theorem ok_checked_short_runs (D : Df K mg "checked_short_runs" s_checked_short_runs) (T : Tx mg) (G_checked_runs : Has P w K mg base 5 "checked_runs" ["sequence"] sp_checked_runs) (G_length_of : Has P w K mg base 1 "length_of" ["runs"] sp_length_of) :
    Has P w K mg base 6 "checked_short_runs" ["sequence"] sp_checked_short_runs := by
  refine has_of D sc_checked_short_runs (fun _ _ _ _ _ _ us hl => match us, hl with | [_], _ => rfl) (fun vs H Q E h => ?_) (fun f cdv A outer s₀ H vs Q E hr h => ?_)
  · obtain ⟨a, R, rfl, _⟩ := h
    rfl
  · obtain ⟨av, rs, rfl, hR, ok, l4, q⟩ := h
    have lr := ok.1
    refine ⟨_, (pss_cons (ps_set (i := 1) sc_checked_short_runs.nd rfl (by first | exact Or.inl rfl | exact Or.inr rfl) (pe_callH G_checked_runs (hr.mono (by omega)) (by rfl) (pa_cons (pv 0) pa_nil)))
    (pss_cons (ps_if (pt_cmpR op_gt (pe_callH G_length_of (hr.mono (by omega)) (by rfl) (pa_cons (pv 1) pa_nil)) (pe_glI T.c_MAX_ITEMS (by rfl)) (nomark _)) (pss_one ps_never) pss_nil)
    (pss_one (ps_ret (pv 1))))), ?_⟩
    refine ⟨_, rfl, av, rs, rfl, hR, ok, fun H1 p1 s1 n1 h1 => ?_⟩
    refine ⟨_, rfl, p1, rs, rfl, h1, by omega, fun H2 s2 => ⟨_, _, rfl, rfl, _, rfl, iteN (decide_eq_false (by omega)) ?_⟩⟩
    exact ⟨_, rfl, q H2 p1 (s1.trans s2) n1 (h1.same s2)⟩
/-! items_of: slots 0:sequence 1:items 2:kind 3:count -/
abbrev s_items_of : Stmt := topS 42
theorem sc_items_of : FnScope ["sequence", "items", "kind", "count"] ["sequence"] (defScope s_items_of) := ⟨rfl, rfl, rfl, by decide +kernel, rfl, by decide +kernel, by decide +kernel⟩
def sp_items_of : Sp := fun vs H Q _ => ∃ (av : V) (rs : List Run), vs = [av] ∧ RunsG H av rs ∧ SeqOk rs ∧ lenR rs ≤ 400 ∧ ∀ H' p, Same H H' → H p = none → H' p = some (.lst ((itR rs).map V.str)) → Q (.ref p) H'
theorem ok_items_of (D : Df K mg "items_of" s_items_of) (T : Tx mg) (G_checked_short_runs : Has P w K mg base 6 "checked_short_runs" ["sequence"] sp_checked_short_runs) :
    Has P w K mg base 7 "items_of" ["sequence"] sp_items_of := by
  refine has_of D sc_items_of (fun _ _ _ _ _ _ us hl => match us, hl with | [_], _ => rfl) (fun vs H Q E h => ?_) (fun f cdv A outer s₀ H vs Q E hr h => ?_)
  · obtain ⟨a, R, rfl, _⟩ := h
    rfl
  · obtain ⟨av, rs, rfl, hR, ok, l4, q⟩ := h
    have pos := ok.pos
    have lenq := len_it rs pos
    have lr := ok.1
    refine ⟨_, (pss_cons (ps_set (i := 1) sc_items_of.nd rfl (by first | exact Or.inl rfl | exact Or.inr rfl) (pe_lst pa_nil))
    (pss_cons (ps_for PassesOwn.never rfl (pi_list (pe_callH G_checked_short_runs (hr.mono (by omega)) (by rfl) (pa_cons (pv 0) pa_nil))) (pg_tup rfl (pgs_cons (pg_name (i := 2) sc_items_of.nd rfl (by first | exact Or.inl rfl | exact Or.inr rfl)) (pgs_cons (pg_name (i := 3) sc_items_of.nd rfl (by first | exact Or.inl rfl | exact Or.inr rfl)) pgs_nil)))
      (pss_one (ps_expr (pe_bm PySem.F.plainAttrs_list PySem.F.slot_list_extend PySem.F.type_list_extend mt_extend (pv 1) (pa_cons (pe_op op_rep (pe_lst (pa_cons (pv 2) pa_nil)) (pv 3)) pa_nil)))))
    (pss_one (ps_ret (pv 1))))), ?_⟩
    refine ⟨Nat.zero_le _, fun p np => ?_⟩
    have s0 := same_upd (o := .lst []) np
    refine ⟨_, rfl, av, rs, rfl, hR.same s0, ok, l4, fun H2 p1 s1 n1 h1 => ?_⟩
    obtain ⟨xs, hx, hpr⟩ := h1
    have lx : xs.length = rs.length := Paired.len hpr
    have sA := s0.trans s1
    have np1 : p1 ≠ p := fun z => by
      rw [z, upd_same] at n1
      cases n1
    refine ⟨p1, rfl, ⟨xs, .of hx⟩, for_list (K := K) (a := p1) (xs := xs) (fun i σ H' => ∃ y3 y4, σ = [some av, some (.ref p), y3, y4] ∧ But p H2 H' ∧ H' p = some (.lst ((itR (rs.take i)).map V.str)))
      ⟨none, none, rfl, But.refl, s1 _ _ upd_same⟩ (fun i σ H' _ hP => ?_) (fun i x σ H4 ex hP => ?_) (fun σ H4 hP => ?_)⟩
    · obtain ⟨_, _, _, bt, _⟩ := hP
      exact .of (bt _ _ np1 hx)
    · obtain ⟨y3, y4, rfl, bt, hL⟩ := hP
      obtain ⟨r, er, hr1⟩ := Paired.at hpr ex
      obtain ⟨t, rfl, ht⟩ := RunV.butL (s1 _ _ upd_same) bt hr1
      have c1 := pos r (List.mem_of_getElem? er)
      have e2 : itR (rs.take (i + 1)) = itR (rs.take i) ++ List.replicate r.2.toNat r.1 := by rw [take_snoc er, itR_snoc]
      have le : ((itR (rs.take i)).length + r.2.toNat : Nat) ≤ 400 := by
        have a1 : (itR (rs.take (i + 1)) ++ itR (rs.drop (i + 1))) = itR rs := by
          unfold itR
          rw [← List.flatMap_append, List.take_append_drop]
        have a2 := congrArg List.length a1
        rw [List.length_append, e2, List.length_append, List.length_replicate] at a2
        omega
      refine ⟨t, _, rfl, .of ht, rfl, _, _, rfl, _, _, rfl, rfl, ?_⟩
      refine ⟨_, rfl, .inl ⟨rfl, _, SqL.of hL⟩, _, rfl, (by show 1 ≤ sizeLine; decide), fun l1 m1 => ?_⟩
      refine ⟨_, rfl, l1, r.2, [.str r.1], rfl, rfl, upd_same, by omega, by omega, smallE (by show 1 * r.2.toNat ≤ 1000000; omega), fun l2 m2 => ?_⟩
      rw [flat_one]
      have s5 := (same_upd (o := .lst [.str r.1]) m1).trans (same_upd (o := .lst (List.replicate r.2.toNat (.str r.1))) m2)
      refine ⟨p, l2, _, _, rfl, rfl, same_upd m2 _ _ (same_upd m1 _ _ hL), upd_same, ?_, _, _, rfl, bt.trans (fun b o n e => by rw [upd_ne n]; exact s5 _ _ e), ?_⟩
      · rw [List.length_map, List.length_replicate]
        exact smallE (by omega)
      · rw [upd_same, e2, List.map_append, List.map_replicate]
    · obtain ⟨y3, y4, rfl, bt, hL⟩ := hP
      rw [lx, List.take_length] at hL
      exact ⟨_, rfl, q H4 p (fun b o e => bt _ _ (ne_of_none e np) (sA _ _ e)) np hL⟩
end
end UP

set_option Elab.async false
set_option linter.all false
set_option maxRecDepth 100000
set_option maxHeartbeats 4000000
namespace UP
open PySem PySem.Spec PyProof.Rows L2
theorem Alt.tail {r : Run} {t : List Run} (h : Alt (r :: t)) : Alt t := fun i x y hx hy => h (i + 1) x y hx hy
theorem addR_new {rs : List Run} {r : Run} (h : ∀ l, rs.getLast? = some l → l.1 ≠ r.1) : addR rs r = rs ++ [r] := by
  unfold addR
  cases e : rs.getLast? with
  | none =>
    rw [List.getLast?_eq_none_iff.mp e]
    rfl
  | some l => exact if_neg (h l e)
theorem addR_more (R : List Run) (l r : Run) (h : l.1 = r.1) : addR (R ++ [l]) r = R ++ [(r.1, l.2 + r.2)] := by
  unfold addR
  rw [List.getLast?_concat, List.dropLast_concat]
  exact if_pos h
theorem join_alt : ∀ (cs rs : List Run), Alt cs → (∀ l c, rs.getLast? = some l → cs.head? = some c → l.1 ≠ c.1) → joinR rs cs = rs ++ cs
  | [], rs, _, _ => by
    rw [List.append_nil]
    rfl
  | c :: t, rs, a, h => by
    show joinR (addR rs c) t = rs ++ c :: t
    rw [addR_new fun l hl => h l c hl rfl, join_alt t (rs ++ [c]) a.tail (fun l d hl hd => ?_), List.append_assoc]
    · rfl
    · rw [List.getLast?_concat] at hl
      cases hl
      cases t with
      | nil => cases hd
      | cons e u =>
        cases hd
        exact a 0 _ _ rfl rfl
theorem join_more (R : List Run) (l c : Run) (t : List Run) (a : Alt (c :: t)) (h : l.1 = c.1) : joinR (R ++ [l]) (c :: t) = R ++ [(c.1, l.2 + c.2)] ++ t := by
  show joinR (addR (R ++ [l]) c) t = _
  rw [addR_more R l c h, join_alt t _ a.tail (fun l' d hl hd => ?_)]
  rw [List.getLast?_concat] at hl
  cases hl
  cases t with
  | nil => cases hd
  | cons e u =>
    cases hd
    exact a 0 c _ rfl rfl
/-! ### items and runs -/
theorem run_more : ∀ (n : Nat) (R : List Run) (k : Str) (c : Int), (List.replicate n k).foldl (fun rs k => addR rs (k, 1)) (R ++ [(k, c)]) = R ++ [(k, c + (n : Int))]
  | 0, R, k, c => by
    rw [show c + ((0 : Nat) : Int) = c by omega]
    rfl
  | n + 1, R, k, c => by
    show (List.replicate n k).foldl (fun rs k => addR rs (k, 1)) (addR (R ++ [(k, c)]) (k, 1)) = _
    rw [addR_more R (k, c) (k, 1) rfl, run_more n R k (c + 1), show c + 1 + (n : Int) = c + ((n + 1 : Nat) : Int) by omega]
theorem run_one (n : Nat) (rs : List Run) (k : Str) (h : ∀ l, rs.getLast? = some l → l.1 ≠ k) : (List.replicate (n + 1) k).foldl (fun rs k => addR rs (k, 1)) rs = rs ++ [(k, (n : Int) + 1)] := by
  show (List.replicate n k).foldl (fun rs k => addR rs (k, 1)) (addR rs (k, 1)) = _
  rw [addR_new (r := (k, 1)) h, run_more n rs k 1, show (1 : Int) + (n : Int) = (n : Int) + 1 by omega]
theorem run_items : ∀ (rs R : List Run), Alt rs → (∀ r ∈ rs, 1 ≤ r.2) → (∀ l c, R.getLast? = some l → rs.head? = some c → l.1 ≠ c.1) → (itR rs).foldl (fun rs k => addR rs (k, 1)) R = R ++ rs
  | [], R, _, _, _ => by
    rw [List.append_nil]
    rfl
  | r :: t, R, a, p, h => by
    have c1 := p r (List.mem_cons_self ..)
    obtain ⟨n, hn⟩ : ∃ n : Nat, r.2.toNat = n + 1 := ⟨r.2.toNat - 1, by omega⟩
    have e : itR (r :: t) = List.replicate r.2.toNat r.1 ++ itR t := rfl
    rw [e, List.foldl_append, hn, run_one n R r.1 (fun l hl => h l r hl rfl), show (n : Int) + 1 = r.2 by omega, run_items t (R ++ [(r.1, r.2)]) a.tail (fun x hx => p x (List.mem_cons_of_mem _ hx)) (fun l d hl hd => ?_), List.append_assoc]
    · rfl
    · rw [List.getLast?_concat] at hl
      cases hl
      cases t with
      | nil => cases hd
      | cons e u =>
        cases hd
        exact a 0 _ _ rfl rfl
theorem run_it {rs : List Run} (a : Alt rs) (p : ∀ r ∈ rs, 1 ≤ r.2) : runR (itR rs) = rs := by
  have := run_items rs [] a p (fun l c hl => by cases hl)
  rw [List.nil_append] at this
  exact this
theorem it_one (k : Str) (c : Int) : itR [(k, c)] = List.replicate c.toNat k := by
  show List.replicate c.toNat k ++ [] = _
  rw [List.append_nil]
theorem it_add (rs : List Run) (k : Str) (p : ∀ r ∈ rs, 1 ≤ r.2) : itR (addR rs (k, 1)) = itR rs ++ [k] := by
  rcases List.eq_nil_or_concat rs with e0 | ⟨R0, l, e0⟩
  · subst e0
    rfl
  · rw [List.concat_eq_append] at e0
    subst e0
    have c1 := p l (List.mem_append.mpr (.inr (List.mem_singleton.mpr rfl)))
    by_cases h : l.1 = k
    · rw [addR_more R0 l (k, 1) h, it_app, it_app, List.append_assoc, it_one]
      congr 1
      have e : itR [l] = List.replicate l.2.toNat l.1 := it_one l.1 l.2
      show List.replicate (l.2 + 1).toNat k = itR [l] ++ [k]
      rw [e, h, show (l.2 + 1).toNat = l.2.toNat + 1 by omega, List.replicate_succ']
    · rw [addR_new (fun l' hl => by rw [List.getLast?_concat] at hl; cases hl; exact h), it_app]
      rfl
/-- what holds of the runs of some kinds -/
structure RunsOf (rs : List Run) (ks : List Str) : Prop where
  it : itR rs = ks
  pos : ∀ r ∈ rs, 1 ≤ r.2
  mem : ∀ r ∈ rs, r.1 ∈ ks
  alt : Alt rs
theorem runs_snoc {rs : List Run} {ks : List Str} {k : Str} (h : RunsOf rs ks) : RunsOf (addR rs (k, 1)) (ks ++ [k]) := by
  obtain ⟨i, p, m, a⟩ := h
  refine ⟨by rw [it_add rs k p, i], ?_, ?_, ?_⟩
  all_goals
    rcases List.eq_nil_or_concat rs with e0 | ⟨R0, l, e0⟩
  · subst e0
    intro r hr
    rw [List.mem_singleton.mp (show r ∈ [(k, (1 : Int))] from hr)]
    exact Int.le_refl 1
  · rw [List.concat_eq_append] at e0
    subst e0
    have c1 := p l (List.mem_append.mpr (.inr (List.mem_singleton.mpr rfl)))
    intro r hr
    by_cases h : l.1 = k
    · rw [addR_more R0 l (k, 1) h] at hr
      rcases List.mem_append.mp hr with z | z
      · exact p r (List.mem_append.mpr (.inl z))
      · rw [List.mem_singleton.mp z]
        show 1 ≤ l.2 + 1
        omega
    · rw [addR_new (fun l' hl => by rw [List.getLast?_concat] at hl; cases hl; exact h)] at hr
      rcases List.mem_append.mp hr with z | z
      · exact p r z
      · rw [List.mem_singleton.mp z]
        exact Int.le_refl 1
  · subst e0
    intro r hr
    rw [List.mem_singleton.mp (show r ∈ [(k, (1 : Int))] from hr)]
    exact List.mem_append.mpr (.inr (List.mem_singleton.mpr rfl))
  · rw [List.concat_eq_append] at e0
    subst e0
    intro r hr
    by_cases h : l.1 = k
    · rw [addR_more R0 l (k, 1) h] at hr
      rcases List.mem_append.mp hr with z | z
      · exact List.mem_append.mpr (.inl (m r (List.mem_append.mpr (.inl z))))
      · rw [List.mem_singleton.mp z]
        exact List.mem_append.mpr (.inr (List.mem_singleton.mpr rfl))
    · rw [addR_new (fun l' hl => by rw [List.getLast?_concat] at hl; cases hl; exact h)] at hr
      rcases List.mem_append.mp hr with z | z
      · exact List.mem_append.mpr (.inl (m r z))
      · rw [List.mem_singleton.mp z]
        exact List.mem_append.mpr (.inr (List.mem_singleton.mpr rfl))
  · subst e0
    intro i x y hx hy
    cases hy
  · rw [List.concat_eq_append] at e0
    subst e0
    by_cases h : l.1 = k
    · rw [addR_more R0 l (k, 1) h]
      have e : (R0 ++ [((k, (1 : Int)).1, l.2 + (k, (1 : Int)).2)]).map (·.1) = (R0 ++ [l]).map (·.1) := by
        rw [List.map_append, List.map_append]
        show R0.map (·.1) ++ [k] = R0.map (·.1) ++ [l.1]
        rw [h]
      intro i x y hx hy
      have ex := congrArg (fun z : List Str => z[i]?) e
      have ey := congrArg (fun z : List Str => z[i + 1]?) e
      simp only [List.getElem?_map] at ex ey
      rw [hx] at ex
      rw [hy] at ey
      cases gx : (R0 ++ [l])[i]? with
      | none => rw [gx] at ex; cases ex
      | some x' =>
        cases gy : (R0 ++ [l])[i + 1]? with
        | none => rw [gy] at ey; cases ey
        | some y' =>
          rw [gx] at ex
          rw [gy] at ey
          have ex : x.1 = x'.1 := Option.some.inj ex
          have ey : y.1 = y'.1 := Option.some.inj ey
          rw [ex, ey]
          exact a i x' y' gx gy
    · rw [addR_new (fun l' hl => by rw [List.getLast?_concat] at hl; cases hl; exact h)]
      refine alt_snoc a fun y hy => ?_
      rw [← List.getLast?_eq_getElem?, List.getLast?_concat] at hy
      cases hy
      exact h
theorem runs_of_all : ∀ (ks l : List Str) (R : List Run), RunsOf R l → RunsOf (ks.foldl (fun rs k => addR rs (k, 1)) R) (l ++ ks)
  | [], l, R, h => by
    rw [List.append_nil]
    exact h
  | k :: t, l, R, h => by
    have := runs_of_all t (l ++ [k]) _ (runs_snoc (k := k) h)
    rw [List.append_assoc] at this
    exact this
theorem runs_all (ks : List Str) : RunsOf (runR ks) ks := runs_of_all ks [] [] ⟨rfl, (fun r h => by cases h), (fun r h => by cases h), fun i x y hx => by simp at hx⟩
theorem len_mem {rs : List Run} (p : ∀ r ∈ rs, 1 ≤ r.2) : ∀ r ∈ rs, r.2 ≤ lenR rs := by
  induction rs with
  | nil => intro r h; cases h
  | cons x t ih =>
    intro r hr
    have c1 := p x (List.mem_cons_self ..)
    have ih' := ih fun y hy => p y (List.mem_cons_of_mem _ hy)
    rw [lenR_cons]
    have nn : 0 ≤ lenR t := by
      have := len_it t fun y hy => p y (List.mem_cons_of_mem _ hy)
      omega
    rcases List.mem_cons.mp hr with e | e
    · rw [e]
      omega
    · have := ih' r e
      omega
theorem seq_runs {ks : List Str} (l : ks.length ≤ 400) (ok : ∀ k ∈ ks, KindOk k) : SeqOk (runR ks) ∧ lenR (runR ks) ≤ 400 ∧ itR (runR ks) = ks := by
  obtain ⟨i, p, m, a⟩ := runs_all ks
  have ll := len_it (runR ks) p
  rw [i] at ll
  refine ⟨⟨?_, fun r hr => ⟨ok _ (m r hr), p r hr, ?_⟩, a⟩, by omega, i⟩
  · exact Nat.le_trans (runR_len ks) l
  · have := len_mem p r hr
    omega
end UP

set_option Elab.async false
set_option linter.all false
set_option maxRecDepth 100000
set_option maxHeartbeats 4000000
namespace UP
open PySem PySem.Spec PyProof.Rows L2
/-! ### the reel: a list of two lists of ints and two ints -/
def Reel (H : Hp) (p : Addr) : Prop := ∃ (g c : Addr) (gs cs : List Int) (n s : Int), H p = some (.lst [.ref g, .ref c, .int n, .int s]) ∧ H g = some (.lst (gs.map V.int)) ∧ H c = some (.lst (cs.map V.int)) ∧ gs.length ≤ 63 ∧ (∀ x ∈ gs, 0 ≤ x) ∧ 0 < cs.length ∧ cs.length ≤ 64 ∧ 0 ≤ n ∧ 0 ≤ s ∧ s < 170141183460469231731687303715884105727
def Off (H : Hp) (p D : Addr) : Prop := ∃ (g c : Addr) (n s : Int), H p = some (.lst [.ref g, .ref c, .int n, .int s]) ∧ D ≠ p ∧ D ≠ g ∧ D ≠ c
theorem not_ints {g c : Addr} {n s : Int} {l : List Int} : (HO.lst [.ref g, .ref c, .int n, .int s]) ≠ .lst (l.map V.int) := by
  intro h
  have h := HO.lst.inj h
  cases l with
  | nil => cases h
  | cons x t => cases h
theorem Reel.off {H : Hp} {p D : Addr} (z : Reel H p) (n : H D = none) : Off H p D := by
  obtain ⟨g, c, gs, cs, i, s, hp, hg, hc, _⟩ := z
  exact ⟨g, c, i, s, hp, fun e => by (rw [e, hp] at n; cases n), fun e => by (rw [e, hg] at n; cases n), fun e => by (rw [e, hc] at n; cases n)⟩
theorem Reel.ne {H : Hp} {p D : Addr} (z : Reel H p) (n : H D = none) : D ≠ p := by
  obtain ⟨_, _, _, _, _, h, _⟩ := z.off n
  exact h
theorem Off.ne {H : Hp} {p D : Addr} (z : Off H p D) : D ≠ p := by
  obtain ⟨_, _, _, _, _, h, _⟩ := z
  exact h
theorem Reel.same {H H' : Hp} {p : Addr} (z : Reel H p) (s : Same H H') : Reel H' p := by
  obtain ⟨g, c, gs, cs, i, t, hp, hg, hc, r⟩ := z
  exact ⟨g, c, gs, cs, i, t, s _ _ hp, s _ _ hg, s _ _ hc, r⟩
theorem Off.same {H H' : Hp} {p D : Addr} (z : Off H p D) (s : Same H H') : Off H' p D := by
  obtain ⟨g, c, i, t, hp, r⟩ := z
  exact ⟨g, c, i, t, s _ _ hp, r⟩
theorem Off.upd {H : Hp} {p D D' : Addr} {o : HO} (z : Off H p D) (n : D' ≠ p) : Off (upd H D' o) p D := by
  obtain ⟨g, c, i, t, hp, r⟩ := z
  exact ⟨g, c, i, t, by rw [upd_ne n.symm]; exact hp, r⟩
theorem Reel.upd {H : Hp} {p D : Addr} {x : HO} (z : Reel H p) (o : Off H p D) : Reel (upd H D x) p := by
  obtain ⟨g, c, gs, cs, i, t, hp, hg, hc, r⟩ := z
  obtain ⟨g', c', i', t', hp', n1, n2, n3⟩ := o
  rw [hp] at hp'
  cases hp'
  exact ⟨g, c, gs, cs, i, t, by rw [upd_ne n1.symm]; exact hp, by rw [upd_ne n2.symm]; exact hg, by rw [upd_ne n3.symm]; exact hc, r⟩
/-- all but the reel stays, and what was not of the reel is not of it -/
structure RB (p : Addr) (H H' : Hp) : Prop where
  but : But p H H'
  off : ∀ D o, H D = some o → Off H p D → Off H' p D
theorem RB.refl {p : Addr} {H : Hp} : RB p H H := ⟨But.refl, fun _ _ _ h => h⟩
theorem RB.trans {p : Addr} {H H1 H2 : Hp} (a : RB p H H1) (b : RB p H1 H2) : RB p H H2 := ⟨a.but.trans b.but, fun D o e h => b.off D o (a.but D o h.ne e) (a.off D o e h)⟩
theorem RB.of {p : Addr} {H H' : Hp} (s : Same H H') : RB p H H' := ⟨sb s, fun _ _ _ h => h.same s⟩
theorem RB.free {p q : Addr} {H H' : Hp} (b : RB p H H') (z : Reel H' p) (h : H' q = none) : H q = none := by
  by_cases e : q = p
  · exact absurd e (z.ne h)
  · cases r : H q with
    | none => rfl
    | some o =>
      rw [b.but q o e r] at h
      cases h
theorem RB.grow {p D : Addr} {H H' : Hp} {x : HO} (b : RB p H H') (n : H D = none) (o : Off H' p D) : RB p H (L2.upd H' D x) := ⟨fun q r e h => by
    rw [upd_ne (ne_of_none h n)]
    exact b.but q r e h, fun E r h k => (b.off E r h k).upd o.ne⟩
theorem RB.run {p : Addr} {H H' : Hp} {v : V} {r : Run} (b : RB p H H') (z : Reel H p) (h : RunV H v r) : RunV H' v r := by
  obtain ⟨t, e, h⟩ := h
  obtain ⟨_, _, _, _, _, _, hp, _⟩ := z
  exact ⟨t, e, b.but _ _ (ne_of h hp (by intro q; cases q)) h⟩
theorem RB.st {p : Addr} {H H' : Hp} {v : V} {st : Option Run} (b : RB p H H') (z : Reel H p) (h : StV H v st) : StV H' v st := by
  cases st with
  | none => exact h
  | some r => exact b.run z h
theorem RB.strs {p a : Addr} {H H' : Hp} {ks : List Str} (b : RB p H H') (z : Reel H p) (h : H a = some (.lst (ks.map V.str))) : H' a = some (.lst (ks.map V.str)) := by
  obtain ⟨_, _, _, _, _, _, hp, _⟩ := z
  refine b.but _ _ (ne_of h hp fun q => ?_) h
  have q := HO.lst.inj q
  cases ks with
  | nil => cases q
  | cons x t => cases q
theorem RB.tup {p a : Addr} {H H' : Hp} {xs : List V} (b : RB p H H') (z : Reel H p) (h : H a = some (.tup xs)) : H' a = some (.tup xs) := by
  obtain ⟨_, _, _, _, _, _, hp, _⟩ := z
  exact b.but _ _ (ne_of h hp (by intro q; cases q)) h
/-! ### lists of ints -/
theorem dp_intl {K : PySem.W.Frag} {H : Hp} : ∀ (l : List Int), DpAll K H (l.map V.int) (l.map PyData.int)
  | [] => .nil
  | x :: t => .cons (.int x) (dp_intl t)
theorem can_intl : ∀ (l : List Int), PyData.canLayAll0 (l.map PyData.int) = true
  | [] => by simp [PyData.canLayAll0]
  | x :: t => by
    rw [List.map_cons, PyData.canLayAll0, can_intl t]
    simp [PyData.canLay0]
theorem depth_intl : ∀ (l : List Int), PyData.depthAll (l.map PyData.int) ≤ 1
  | [] => by simp [PyData.depthAll]
  | x :: t => by
    rw [List.map_cons, PyData.depthAll]
    exact Nat.max_le.mpr ⟨by simp [PyData.depth], depth_intl t⟩
theorem shaped_intl (l : List Int) : SeqAt.shaped (.list (l.map PyData.int)) = true := by
  unfold SeqAt.shaped
  rw [PyData.canLay0, can_intl l, PyData.depth]
  have := depth_intl l
  exact decide_eq_true (by omega)
theorem eqv_nilI (l : List Int) : PyData.eqv (.list (l.map PyData.int)) (.list []) = l.isEmpty := by
  cases l with
  | nil => simp [PyData.eqv, PyData.eqvAll]
  | cons r t => simp [PyData.eqv, PyData.eqvAll]
theorem cut_dropR (xs : List V) (r : Int) (h0 : 0 ≤ r) (h1 : r ≤ xs.length) : cutV xs (some r) none = xs.drop r.toNat := by
  have e : HT.sIx xs.length 0 (some r) = r.toNat := by
    have := HT.sIx_nat xs.length 0 r.toNat
    rw [show ((r.toNat : Nat) : Int) = r by omega] at this
    omega
  unfold cutV
  rw [e, HT.sIx_none, List.take_of_length_le (by rw [List.length_drop]; exact Nat.le_refl _)]
theorem atI_ofR {α : Type} {l : List α} {i : Int} {x : α} (h0 : 0 ≤ i) (h : l[i.toNat]? = some x) : atI l i = some x := by
  have e : i = (i.toNat : Int) := by omega
  rw [e]
  exact atI_nat h
theorem at40 {α : Type} {x y z u : α} : atI [x, y, z, u] 0 = some x := rfl
theorem at41 {α : Type} {x y z u : α} : atI [x, y, z, u] 1 = some y := rfl
theorem at42 {α : Type} {x y z u : α} : atI [x, y, z, u] 2 = some z := rfl
theorem at43 {α : Type} {x y z u : α} : atI [x, y, z, u] 3 = some u := rfl
section
variable {P : Program} {w : World} {K : PySem.W.Frag} {mg : Str → Option Value} {base : Heap}
/-! _law_draw: slots 0:reel 1:many 2:extra 3:stir 4:rest -/
abbrev s_law_draw : Stmt := topS 65
theorem sc_law_draw : FnScope ["reel", "many", "extra", "stir", "rest"] ["reel", "many"] (defScope s_law_draw) := ⟨rfl, rfl, rfl, by decide +kernel, rfl, by decide +kernel, by decide +kernel⟩
def sp_law_draw : Sp := fun vs H Q _ => ∃ (p : Addr) (m : Int), vs = [.ref p, .int m] ∧ Reel H p ∧ 1 ≤ m ∧ m.natAbs < 2 ^ 8000 ∧ ∀ H' r, RB p H H' → Reel H' p → 0 ≤ r → r < m → Q (.int r) H'
theorem p127 : (2 : Int) ^ ((64 : Int).toNat) * 2 ^ ((63 : Int).toNat) - 1 = 170141183460469231731687303715884105727 := by decide +kernel
theorem ok_law_draw (D : Df K mg "_law_draw" s_law_draw) (T : Tx mg) : Has P w K mg base 1 "_law_draw" ["reel", "many"] sp_law_draw := by
  refine has_of D sc_law_draw (fun _ _ _ _ _ _ us hl => match us, hl with | [_, _], _ => rfl) (fun vs H Q E h => ?_) (fun f cdv A outer s₀ H vs Q E hr h => ?_)
  · obtain ⟨a, rs, rfl, _⟩ := h
    rfl
  · obtain ⟨p, m, rfl, z, m1, m2, q⟩ := h
    have z0 := z
    obtain ⟨g, c, gs, cs, n, s, hp, hg, hc, lg, g0, lc, lc2, n0, s0, s1⟩ := z
    refine ⟨_, (pss_cons (ps_if (pt_cmpR (op_neD hr.units) (pe_ix ix_list (pv 0) pe_int (fun _ _ => rfl)) (pe_lst pa_nil) (nomark _)) (pss_cons (ps_set (i := 4) sc_law_draw.nd rfl (by first | exact Or.inl rfl | exact Or.inr rfl) (pe_ix ix_list (pe_ix ix_list (pv 0) pe_int (fun _ _ => rfl)) pe_int (fun _ _ => rfl)))
    (pss_cons (ps_asg (pe_op op_cat (pe_op op_rep (pe_lst (pa_cons (pe_op op_fdivW (pv 4) (pv 1)) pa_nil)) (pe_callTy call_int1 (by rfl) T.n_int (by decide +kernel) (pa_cons (pe_cmpR op_ge (pv 4) (pv 1) (nomark _)) pa_nil))) (pe_slice sl_list (pe_ix ix_list (pv 0) pe_int (fun _ _ => rfl)) (po_some pe_int) po_none)) (pg_sub (pv 0) pe_int set_list))
    (pss_one (ps_ret (pe_op op_mod (pv 4) (pv 1)))))) pss_nil)
    (pss_cons (ps_asg (pe_op op_add (pe_ix ix_list (pv 0) pe_int (fun _ _ => rfl)) pe_int) (pg_sub (pv 0) pe_int set_list))
    (pss_cons (ps_set (i := 2) sc_law_draw.nd rfl (by first | exact Or.inl rfl | exact Or.inr rfl) (pe_ix ix_list (pe_ix ix_list (pv 0) pe_int (fun _ _ => rfl)) (pe_op op_mod (pe_ix ix_list (pv 0) pe_int (fun _ _ => rfl)) (pe_callB call_len_seq (by rfl) T.n_len (by decide +kernel) (pa_cons (pe_ix ix_list (pv 0) pe_int (fun _ _ => rfl)) pa_nil))) (fun _ _ => rfl)))
    (pss_cons (ps_set (i := 3) sc_law_draw.nd rfl (by first | exact Or.inl rfl | exact Or.inr rfl) (pe_op op_add (pe_op op_add (pe_op op_mulW (pe_ix ix_list (pv 0) pe_int (fun _ _ => rfl)) (pe_ix ix_list (pv 0) pe_int (fun _ _ => rfl))) (pe_op op_mul (pe_op op_add (pv 2) pe_int) pe_int)) (pe_op op_mul (pe_ix ix_list (pv 0) pe_int (fun _ _ => rfl)) pe_int)))
    (pss_cons (ps_asg (pe_op op_mod (pv 3) (pe_op op_sub (pe_op op_mul (pe_op op_pow pe_int pe_int) (pe_op op_pow pe_int pe_int)) pe_int)) (pg_sub (pv 0) pe_int set_list))
    (pss_one (ps_ret (pe_op op_mod (pe_op op_fdivW (pe_ix ix_list (pv 0) pe_int (fun _ _ => rfl)) (pe_op op_pow pe_int pe_int)) (pv 1))))))))), ?_⟩
    refine ⟨_, rfl, p, _, 0, _, rfl, rfl, .of hp, at40, Nat.zero_le _, fun e ne => ?_⟩
    have se := same_upd (o := .lst []) ne
    refine ⟨.list (gs.map PyData.int), .list [], .lst (.of (se _ _ hg)) (dp_intl gs), .lst (.of upd_same) .nil, shaped_intl gs, shaped_nil, _, rfl, ?_⟩
    rw [eqv_nilI]
    replace hp := se _ _ hp
    replace hg := se _ _ hg
    replace hc := se _ _ hc
    have z1 := z0.same se
    generalize L2.upd H e (.lst []) = H1 at *
    cases gs with
    | cons x t =>
      refine iteP rfl ?_
      have x0 := g0 x (List.mem_cons_self ..)
      refine ⟨_, rfl, p, _, 0, _, rfl, rfl, .of hp, at40, g, _, 0, _, rfl, rfl, .of hg, atI_ofR (Int.le_refl _) rfl, ?_⟩
      refine ⟨_, rfl, _, rfl, _, _, rfl, rfl, wide_div (by omega) m2 (by decide) (by decide), (by show 1 ≤ sizeLine; decide), fun l1 n1 => ?_⟩
      have u1 := same_upd (o := .lst [.int (x / m)]) n1
      refine ⟨_, rfl, _, rfl, _, _, rfl, rfl, .inr ⟨_, rfl, l1, _, _, rfl, rfl, upd_same, ?_⟩⟩
      have hk : ∃ k : Nat, k ≤ 1 ∧ (if decide (m ≤ x) = true then (1 : Int) else 0) = (k : Int) := by
        by_cases y : m ≤ x
        · exact ⟨1, Nat.le_refl _, by rw [decide_eq_true y]; rfl⟩
        · exact ⟨0, Nat.zero_le _, by rw [decide_eq_false y]; rfl⟩
      obtain ⟨k, k1, ek⟩ := hk
      rw [show (if decide (x ≥ m) = true then (1 : Int) else 0) = (k : Int) from ek]
      refine ⟨by omega, by omega, ?_, fun l2 n2 => ?_⟩
      · rw [Int.toNat_natCast]
        show 1 * k ≤ sizeLine
        exact Nat.le_of_lt (small (by omega))
      rw [Int.toNat_natCast, show (List.replicate k [V.int (x / m)]).flatten = (List.replicate k (x / m)).map V.int by rw [List.map_replicate, List.flatten_replicate_singleton]]
      have u2 := same_upd (o := .lst ((List.replicate k (x / m)).map V.int)) n2
      refine ⟨_, rfl, p, _, 0, _, rfl, rfl, .of (u2 _ _ (u1 _ _ hp)), at40, _, rfl, g, _, rfl, SqL.of (u2 _ _ (u1 _ _ hg)), fun l3 n3 => ?_⟩
      rw [cut_dropR _ 1 (by omega) (by rw [List.length_map, List.length_cons]; omega), show ((x :: t).map V.int).drop (1 : Int).toNat = t.map V.int from rfl]
      have u3 := same_upd (o := .lst (t.map V.int)) n3
      refine ⟨l2, l3, _, _, rfl, rfl, u3 _ _ upd_same, upd_same, ?_, fun l4 n4 => ?_⟩
      · rw [List.length_map, List.length_map, List.length_replicate]
        rw [List.length_cons] at lg
        exact Nat.le_of_lt (small (by omega))
      have u4 := same_upd (o := .lst ((List.replicate k (x / m)).map V.int ++ t.map V.int)) n4
      have sA := u1.trans (u2.trans (u3.trans u4))
      refine ⟨_, rfl, p, _, 0, 0, rfl, rfl, sA _ _ hp, rfl, ?_⟩
      refine ⟨_, rfl, _, rfl, _, _, rfl, rfl, (by omega), ?_⟩
      have n4p : l4 ≠ p := (ne_of_none ((u1.trans (u2.trans u3)) _ _ hp) n4).symm
      refine q _ _ ⟨fun b o nb eb => ?_, fun D o eD oD => ?_⟩ ⟨l4, c, List.replicate k (x / m) ++ t, cs, n, s, upd_same, ?_, ?_, ?_, ?_, lc, lc2, n0, s0, s1⟩ (Int.emod_nonneg _ (by omega)) (Int.emod_lt_of_pos _ (by omega))
      · rw [upd_ne nb]
        exact sA _ _ (se _ _ eb)
      · obtain ⟨g', c', i', t', hp', e1, e2, e3⟩ := oD.same se
        rw [hp] at hp'
        cases hp'
        refine ⟨l4, c, n, s, upd_same, e1, ?_, e3⟩
        exact ne_of_none ((u1.trans (u2.trans u3)) _ _ (se _ _ eD)) n4
      · rw [upd_ne n4p, upd_same, List.map_append]
      · rw [upd_ne (ne_of hc hp (fun q => not_ints q.symm))]
        exact sA _ _ hc
      · rw [List.length_append, List.length_replicate]
        rw [List.length_cons] at lg
        omega
      · intro y hy
        rcases List.mem_append.mp hy with h | h
        · rw [List.eq_of_mem_replicate h]
          exact Int.ediv_nonneg x0 (by omega)
        · exact g0 y (List.mem_cons_of_mem _ h)
    | nil =>
      refine iteN rfl ?_
      refine ⟨_, rfl, p, _, 2, _, rfl, rfl, .of hp, at42, _, _, rfl, rfl, ?_⟩
      refine ⟨_, rfl, p, _, 2, 2, rfl, rfl, hp, rfl, ?_⟩
      have np : c ≠ p := ne_of hc hp (fun q => not_ints q.symm)
      have h2 : (L2.upd H1 p (.lst [.ref g, .ref c, .int (n + 1), .int s])) p = some (.lst [.ref g, .ref c, .int (n + 1), .int s]) := upd_same
      have hc2 : (L2.upd H1 p (.lst [.ref g, .ref c, .int (n + 1), .int s])) c = some (.lst (cs.map V.int)) := by rw [upd_ne np]; exact hc
      have ix0 := Int.emod_nonneg (n + 1) (b := (cs.length : Int)) (by omega)
      have ix1 := Int.emod_lt_of_pos (n + 1) (b := (cs.length : Int)) (by omega)
      obtain ⟨x, hx⟩ : ∃ x, cs[((n + 1) % (cs.length : Int)).toNat]? = some x := ⟨_, List.getElem?_eq_getElem (by omega)⟩
      have hx2 : (cs.map V.int)[((n + 1) % (cs.length : Int)).toNat]? = some (.int x) := by rw [List.getElem?_map, hx]; rfl
      refine ⟨_, rfl, p, _, 1, _, rfl, rfl, .of h2, at41, _, rfl, p, _, 2, _, rfl, rfl, .of h2, at42, _, rfl, p, _, 1, _, rfl, rfl, .of h2, at41, c, _, rfl, .inl (.of hc2), ?_⟩
      rw [List.length_map]
      refine ⟨_, _, rfl, rfl, (by omega), c, _, _, _, rfl, rfl, .of hc2, atI_ofR ix0 hx2, ?_⟩
      refine ⟨_, rfl, p, _, 3, _, rfl, rfl, .of h2, at43, _, rfl, p, _, 3, _, rfl, rfl, .of h2, at43, _, _, rfl, rfl, wide_mul (a := 127) (b := 127) (by omega) (by omega) (by decide) (by decide) (by decide), _, rfl, _, _, rfl, rfl, _, _, rfl, rfl, .inr ⟨by decide, by decide⟩, _, _, rfl, rfl, _, rfl, p, _, 2, _, rfl, rfl, .of h2, at42, _, _, rfl, rfl, .inr ⟨by decide, by decide⟩, _, _, rfl, rfl, ?_⟩
      refine ⟨_, rfl, _, _, rfl, rfl, ⟨by decide, by decide, by decide⟩, _, _, rfl, rfl, ⟨by decide, by decide, by decide⟩, _, _, rfl, rfl, .inr ⟨by decide +kernel, by decide +kernel⟩, _, _, rfl, rfl, _, _, rfl, rfl, ?_, ?_⟩
      · rw [p127]
        show (0 : Int) < 170141183460469231731687303715884105727
        decide
      rw [p127]
      refine ⟨_, rfl, p, _, 3, 3, rfl, rfl, h2, rfl, ?_⟩
      have h3 : ∀ y : Int, (L2.upd (L2.upd H1 p (.lst [.ref g, .ref c, .int (n + 1), .int s])) p (.lst [.ref g, .ref c, .int (n + 1), .int y])) p = some (.lst [.ref g, .ref c, .int (n + 1), .int y]) := fun y => upd_same
      refine ⟨_, rfl, p, _, 3, _, rfl, rfl, .of (h3 _), at43, _, _, rfl, rfl, ⟨by decide, by decide, by decide⟩, _, _, rfl, rfl, wide_div (b := 64) (by decide) (by decide) (by decide) (by decide), _, rfl, _, _, rfl, rfl, (by omega), ?_⟩
      have ng : g ≠ p := ne_of hg hp (fun q => not_ints (l := []) q.symm)
      refine q _ _ ⟨fun b o nb eb => ?_, fun D o eD oD => ?_⟩ ⟨g, c, [], cs, n + 1, _, h3 _, ?_, ?_, Nat.zero_le _, (fun y h => by cases h), lc, lc2, by omega, Int.emod_nonneg _ (by decide), Int.emod_lt_of_pos _ (by decide)⟩ (Int.emod_nonneg _ (by omega)) (Int.emod_lt_of_pos _ (by omega))
      · rw [upd_ne nb, upd_ne nb]
        exact se _ _ eb
      · obtain ⟨g', c', i', t', hp', e1, e2, e3⟩ := oD.same se
        rw [hp] at hp'
        cases hp'
        exact ⟨g, c, _, _, h3 _, e1, e2, e3⟩
      · rw [upd_ne ng, upd_ne ng]
        exact hg
      · rw [upd_ne np, upd_ne np]
        exact hc
end
end UP

set_option Elab.async false
set_option linter.all false
set_option maxRecDepth 100000
set_option maxHeartbeats 4000000
namespace UP
open PySem PySem.Spec PyProof.Rows L2
theorem SqL.sameR {K : PySem.W.Frag} {H H' : Hp} {a : Addr} {xs : List V} (h : SqL K H a xs) (s : Same H H') : SqL K H' a xs := h.elim (fun z => .inl (z.elim (fun y => .inl (s _ _ y)) (fun ⟨o, y⟩ => .inr ⟨o, s _ _ y⟩))) (fun z => .inr z)
theorem erase_permR {α : Type} : ∀ (l : List α) (i : Nat) (h : i < l.length), (l[i] :: l.eraseIdx i).Perm l
  | [], i, h => absurd h (Nat.not_lt_zero _)
  | x :: t, 0, _ => List.Perm.refl _
  | x :: t, i + 1, h => by
    have h' : i < t.length := Nat.lt_of_succ_lt_succ h
    show (t[i] :: x :: t.eraseIdx i).Perm (x :: t)
    exact (List.Perm.swap x _ _).trans ((erase_permR t i h').cons x)
theorem cut63 (ns : List Int) : ∃ ms : List Int, cutV (ns.map V.int) none (some 63) = ms.map V.int ∧ ms.length ≤ 63 := by
  refine ⟨_, by unfold cutV; rw [← List.map_drop, ← List.map_take], ?_⟩
  rw [List.length_take, List.length_drop]
  have : HT.sIx (ns.map V.int).length (ns.map V.int).length (some 63) ≤ 63 := by
    have := HT.sIx_nat (ns.map V.int).length (ns.map V.int).length 63
    have e : HT.sIx (ns.map V.int).length (ns.map V.int).length (some 63) = HT.sIx (ns.map V.int).length (ns.map V.int).length (some ((63 : Nat) : Int)) := rfl
    rw [e, this]
    exact Nat.min_le_left ..
  omega
theorem int_at {ms : List Int} {i : Nat} {x : V} (h : (ms.map V.int)[i]? = some x) : ∃ n, x = .int n := by
  rw [List.getElem?_map] at h
  cases e : ms[i]? with
  | none =>
    rw [e] at h
    cases h
  | some n =>
    rw [e] at h
    exact ⟨n, (Option.some.inj h).symm⟩
section
variable {P : Program} {w : World} {K : PySem.W.Frag} {mg : Str → Option Value} {base : Heap}
/-! _law_reel: slots 0:script 1:stir 2:cell 3:great -/
abbrev s_law_reel : Stmt := topS 64
theorem sc_law_reel : FnScope ["script", "stir", "cell", "great"] ["script"] (defScope s_law_reel) := ⟨rfl, rfl, rfl, by decide +kernel, rfl, by decide +kernel, by decide +kernel⟩
def sp_law_reel (K : PySem.W.Frag) : Sp := fun vs H Q _ => ∃ (a : Addr) (ns : List Int), vs = [.ref a] ∧ SqL K H a (ns.map V.int) ∧ ∀ H' p, Same H H' → H p = none → Reel H' p → Q (.ref p) H'
theorem ok_law_reel (D : Df K mg "_law_reel" s_law_reel) (T : Tx mg) : Has P w K mg base 1 "_law_reel" ["script"] (sp_law_reel K) := by
  refine has_of D sc_law_reel (fun _ _ _ _ _ _ us hl => match us, hl with | [_], _ => rfl) (fun vs H Q E h => ?_) (fun f cdv A outer s₀ H vs Q E hr h => ?_)
  · obtain ⟨a, rs, rfl, _⟩ := h
    rfl
  · obtain ⟨a, ns, rfl, hS, q⟩ := h
    obtain ⟨ms, em, lm⟩ := cut63 ns
    refine ⟨_, (pss_cons (ps_set (i := 1) sc_law_reel.nd rfl (by first | exact Or.inl rfl | exact Or.inr rfl) (pe_op op_pow pe_int pe_int))
    (pss_cons (ps_for PassesOwn.never rfl (pi_list (pe_slice sl_list (pv 0) po_none (po_some pe_int))) (pg_name (i := 2) sc_law_reel.nd rfl (by first | exact Or.inl rfl | exact Or.inr rfl))
      (pss_one (ps_set (i := 1) sc_law_reel.nd rfl (by first | exact Or.inl rfl | exact Or.inr rfl) (pe_op op_mod (pe_op op_add (pe_op op_add (pe_op op_mulW (pv 1) (pv 1)) (pe_op op_mod (pv 2) pe_int)) pe_int) (pe_op op_sub (pe_op op_mul (pe_op op_pow pe_int pe_int) (pe_op op_pow pe_int pe_int)) pe_int)))))
    (pss_cons (ps_setLc (i := 3) (own := [("cell", 2)]) rfl sc_law_reel.nd rfl rfl (sw_true rfl rfl rfl (by decide +kernel)) (pi_list (pe_slice sl_list (pv 0) po_none (po_some pe_int))) (blkOk_by (N := ["script", "stir", "cell", "great"]) (sc := defScope s_law_reel) (by decide +kernel)) (fun _ _ _ _ _ => (pg_name (i := 2) sc_law_reel.nd rfl (by first | exact Or.inl rfl | exact Or.inr rfl))) (fun _ _ _ _ _ => pts_one (pt_cmpR op_ge (pv 2) (pe_op op_pow pe_int pe_int) (nomark _))) (fun _ _ _ _ _ => (pe_op op_sub (pv 2) (pe_op op_pow pe_int pe_int))))
    (pss_one (ps_ret (pe_lst (pa_cons (pv 3) (pa_cons (pe_op op_cat (pe_lc (own := [("cell", 2)]) rfl sc_law_reel.nd (pi_list (pe_slice sl_list (pv 0) po_none (po_some pe_int))) (blkOk_by (N := ["script", "stir", "cell", "great"]) (sc := defScope s_law_reel) (by decide +kernel)) (fun _ _ _ _ _ => (pg_name (i := 2) sc_law_reel.nd rfl (by first | exact Or.inl rfl | exact Or.inr rfl))) (fun _ _ _ _ _ => pts_nil) (fun _ _ _ _ _ => (pe_op op_mod (pv 2) pe_int))) (pe_lst (pa_cons pe_int pa_nil))) (pa_cons pe_int (pa_cons (pv 1) pa_nil)))))))))), ?_⟩
    refine ⟨_, _, rfl, rfl, ⟨by decide, by decide, by decide⟩, ?_⟩
    refine ⟨_, rfl, _, rfl, a, _, rfl, hS, fun c nc => ?_⟩
    rw [em]
    have sc : Same H (upd H c (.lst (ms.map V.int))) := same_upd nc
    refine ⟨c, rfl, ⟨_, .of upd_same⟩, for_list (K := K) (a := c) (xs := ms.map V.int) (fun i σ H' => ∃ s y2, σ = [some (.ref a), some (.int s), y2, none] ∧ H' = upd H c (.lst (ms.map V.int)) ∧ 0 ≤ s ∧ s < 170141183460469231731687303715884105727)
      ⟨_, none, rfl, rfl, by decide +kernel, by decide +kernel⟩ (fun i σ H' _ hP => ?_) (fun i x σ H4 ex hP => ?_) (fun σ H4 hP => ?_)⟩
    · obtain ⟨_, _, _, rfl, _⟩ := hP
      exact .of upd_same
    · obtain ⟨s, y2, rfl, rfl, s0, s1⟩ := hP
      obtain ⟨n, rfl⟩ := int_at ex
      refine ⟨_, rfl, _, rfl, _, _, rfl, rfl, wide_mul (a := 127) (b := 127) (by omega) (by omega) (by decide) (by decide) (by decide), _, rfl, _, _, rfl, rfl, (by show (0 : Int) < 1000000000000000003; decide), _, _, rfl, rfl, _, _, rfl, rfl, _, _, rfl, rfl, ⟨by decide, by decide, by decide⟩, _, _, rfl, rfl, ⟨by decide, by decide, by decide⟩, _, _, rfl, rfl, .inr ⟨by decide +kernel, by decide +kernel⟩, _, _, rfl, rfl, _, _, rfl, rfl, ?_, ?_⟩
      · rw [p127]
        show (0 : Int) < 170141183460469231731687303715884105727
        decide
      rw [p127]
      exact ⟨_, _, rfl, rfl, Int.emod_nonneg _ (by decide), Int.emod_lt_of_pos _ (by decide)⟩
    · obtain ⟨s, y2, rfl, rfl, s0, s1⟩ := hP
      generalize upd H c (.lst (ms.map V.int)) = H1 at *
      refine ⟨_, rfl, _, rfl, a, _, rfl, SqL.sameR hS sc, fun c2 nc2 => ?_⟩
      rw [em]
      have sc2 : Same H1 (upd H1 c2 (.lst (ms.map V.int))) := same_upd nc2
      refine ⟨c2, rfl, ⟨_, .of upd_same⟩, fun L nL => lc_list (K := K) (a := c2) (xs := ms.map V.int) (fun i H' => Same (upd H1 c2 (.lst (ms.map V.int))) H' ∧ ∃ gs : List Int, H' L = some (.lst (gs.map V.int)) ∧ gs.length ≤ i ∧ ∀ x ∈ gs, 0 ≤ x)
        ⟨same_upd nL, [], upd_same, Nat.le_refl _, fun x h => by cases h⟩ (fun i H' _ p => .of (p.1 _ _ upd_same)) (fun i x H5 ex hP => ?_) (fun H5 hP => ?_)⟩
      · obtain ⟨s5, gs, hL, lg, g0⟩ := hP
        have hi : i < ms.length := by
          have := (List.getElem?_eq_some_iff.mp ex).1
          rw [List.length_map] at this
          exact this
        obtain ⟨n, rfl⟩ := int_at ex
        refine ⟨rfl, _, rfl, _, _, rfl, rfl, ⟨by decide, by decide, by decide⟩, _, _, rfl, rfl, _, rfl, ite2 (fun e => ?_) (fun e => ?_)⟩
        · have e : (10 : Int) ^ ((18 : Int).toNat) ≤ n := of_decide_eq_true e
          refine ⟨_, rfl, _, _, rfl, rfl, ⟨by decide, by decide, by decide⟩, _, _, rfl, rfl, _, hL, ?_, same_grow nL s5, gs ++ [n - (10 : Int) ^ ((18 : Int).toNat)], ?_, ?_, ?_⟩
          · rw [List.length_map]
            exact small (by omega)
          · rw [upd_same, List.map_append]
            rfl
          · rw [List.length_append]
            show gs.length + 1 ≤ i + 1
            omega
          · intro x hx
            rcases List.mem_append.mp hx with h | h
            · exact g0 x h
            · rw [List.mem_singleton.mp h]
              omega
        · exact ⟨s5, gs, hL, by omega, g0⟩
      · obtain ⟨s5, gs, hL, lg, g0⟩ := hP
        rw [List.length_map] at lg
        refine ⟨_, rfl, ?_⟩
        have sB : Same H1 H5 := sc2.trans s5
        refine ⟨_, rfl, _, rfl, a, _, rfl, SqL.sameR (SqL.sameR hS sc) sB, fun c3 nc3 => ?_⟩
        rw [em]
        have sc3 : Same H5 (upd H5 c3 (.lst (ms.map V.int))) := same_upd nc3
        refine ⟨c3, rfl, ⟨_, .of upd_same⟩, fun M nM => lc_list (K := K) (a := c3) (xs := ms.map V.int) (fun i H' => Same (upd H5 c3 (.lst (ms.map V.int))) H' ∧ ∃ cs : List Int, H' M = some (.lst (cs.map V.int)) ∧ cs.length = i)
          ⟨same_upd nM, [], upd_same, rfl⟩ (fun i H' _ p => .of (p.1 _ _ upd_same)) (fun i x H6 ex hP => ?_) (fun H6 hP => ?_)⟩
        · obtain ⟨s6, cs, hM, lc⟩ := hP
          have hi : i < ms.length := by
            have := (List.getElem?_eq_some_iff.mp ex).1
            rw [List.length_map] at this
            exact this
          obtain ⟨n, rfl⟩ := int_at ex
          refine ⟨rfl, yesT ⟨_, rfl, _, _, rfl, rfl, (by show (0 : Int) < 1000003; decide), _, hM, ?_, same_grow nM s6, cs ++ [n % 1000003], ?_, ?_⟩⟩
          · rw [List.length_map]
            exact small (by omega)
          · rw [upd_same, List.map_append]
            rfl
          · rw [List.length_append, lc]
            rfl
        · obtain ⟨s6, cs, hM, lc⟩ := hP
          rw [List.length_map] at lc
          refine ⟨(by show 1 ≤ sizeLine; decide), fun o no => ?_⟩
          have s7 := same_upd (o := .lst [.int 57]) no
          refine ⟨M, o, _, _, rfl, rfl, s7 _ _ hM, upd_same, ?_, fun r nr => ?_⟩
          · rw [List.length_map]
            show cs.length + 1 ≤ sizeLine
            exact Nat.le_of_lt (small (by omega))
          have s8 := same_upd (o := .lst (cs.map V.int ++ [.int 57])) nr
          refine ⟨_, rfl, (by show 4 ≤ sizeLine; decide), fun p np => ?_⟩
          have s9 := same_upd (o := .lst [.ref L, .ref r, .int 0, .int s]) np
          have sC := sc3.trans (s6.trans (s7.trans s8))
          have sT : Same H _ := sc.trans (sB.trans sC)
          refine q _ p (sT.trans s9) (sT.free np) ⟨L, r, gs, cs ++ [57], 0, s, upd_same, s9 _ _ (sC _ _ hL), ?_, by omega, g0, ?_, ?_, Int.le_refl _, s0, s1⟩
          · rw [s9 _ _ upd_same, List.map_append]
            rfl
          · rw [List.length_append]
            exact Nat.succ_pos _
          · rw [List.length_append]
            show cs.length + 1 ≤ 64
            omega
end
end UP

set_option Elab.async false
set_option linter.all false
set_option maxRecDepth 100000
set_option maxHeartbeats 4000000
namespace UP
open PySem PySem.Spec PyProof.Rows L2
def sp_noneR : Sp := fun _ _ _ _ => False
theorem simR_run {H : Hp} {p : Addr} {v : V} {r : Run} {n : Nat} (z : Reel H p) (h : RunV H v r) : Sim (· ≠ p) H (n + 1) v (dP r) := by
  obtain ⟨t, rfl, h⟩ := h
  obtain ⟨_, _, _, _, _, _, hs, _⟩ := z
  exact .inr ⟨t, _, _, rfl, ne_of h hs (by intro q; cases q), .inr h, rfl, sim_pair r, Nat.le_of_ble_eq_true rfl⟩
theorem simR_st {H : Hp} {p : Addr} {v : V} {st : Option Run} (z : Reel H p) (h : StV H v st) : Sim (· ≠ p) H 2 v (dSt st) := by
  cases st with
  | none =>
    cases h
    exact .inl (.inl ⟨rfl, rfl⟩)
  | some r => exact simR_run z h
section
variable {P : Program} {w : World} {K : PySem.W.Frag} {mg : Str → Option Value} {base : Heap}
end
end UP

set_option Elab.async false
set_option linter.all false
set_option maxRecDepth 100000
set_option maxHeartbeats 4000000
namespace UP
open PySem PySem.Spec PyProof.Rows L2
/-! ### distances -/
def kdV : Option Run → V
  | none => .non
  | some r => .str r.1
def distR (a b : Option Run) : Int := if kdV a = kdV b then (if numR a - numR b < 0 then -(numR a - numR b) else numR a - numR b) else numR a + numR b
theorem dist_ss (r s : Run) : distR (some r) (some s) = if r.1 = s.1 then (if r.2 - s.2 < 0 then -(r.2 - s.2) else r.2 - s.2) else r.2 + s.2 := by
  unfold distR
  by_cases e : r.1 = s.1
  · rw [if_pos e, if_pos (by show V.str r.1 = V.str s.1; rw [e])]
    rfl
  · rw [if_neg e, if_neg (show ¬ kdV (some r) = kdV (some s) from fun z => e (V.str.inj z))]
    rfl
theorem dist_nn : distR none none = 0 := rfl
theorem dist_ns (r : Run) : distR none (some r) = r.2 := by
  unfold distR
  rw [if_neg (by intro z; cases z)]
  show 0 + r.2 = r.2
  omega
theorem dist_sn (r : Run) : distR (some r) none = r.2 := by
  unfold distR
  rw [if_neg (by intro z; cases z)]
  show r.2 + 0 = r.2
  omega
theorem dist_comm (a b : Option Run) : distR a b = distR b a := by
  cases a with
  | none =>
    cases b with
    | none => rfl
    | some s => rw [dist_ns, dist_sn]
  | some r =>
    cases b with
    | none => rw [dist_ns, dist_sn]
    | some s =>
      rw [dist_ss, dist_ss]
      by_cases e : r.1 = s.1
      · rw [if_pos e, if_pos e.symm]
        split <;> split <;> omega
      · rw [if_neg e, if_neg fun z => e z.symm]
        omega
theorem dist_zero {a b : Option Run} (pa : PosO a) (pb : PosO b) : distR a b = 0 ↔ a = b := by
  cases a with
  | none =>
    cases b with
    | none => exact ⟨fun _ => rfl, fun _ => rfl⟩
    | some s =>
      have := pb s rfl
      rw [dist_ns]
      exact ⟨fun z => by omega, fun z => by cases z⟩
  | some r =>
    have h1 := pa r rfl
    cases b with
    | none =>
      rw [dist_sn]
      exact ⟨fun z => by omega, fun z => by cases z⟩
    | some s =>
      have h2 := pb s rfl
      rw [dist_ss]
      constructor
      · intro z
        by_cases e : r.1 = s.1
        · rw [if_pos e] at z
          have : r.2 = s.2 := by
            split at z <;> omega
          rw [show r = s from Prod.ext e this]
        · rw [if_neg e] at z
          omega
      · intro z
        cases z
        rw [if_pos rfl]
        split <;> omega
theorem dist_tri {a b c : Option Run} (pa : PosO a) (pb : PosO b) (pc : PosO c) : ¬ distR a c + distR c b < distR a b := by
  cases a with
  | none =>
    cases b with
    | none =>
      cases c with
      | none => rw [dist_nn]; omega
      | some t =>
        have := pc t rfl
        rw [dist_nn, dist_ns, dist_sn]
        omega
    | some s =>
      have h2 := pb s rfl
      cases c with
      | none => rw [dist_nn, dist_ns]; omega
      | some t =>
        have := pc t rfl
        rw [dist_ns, dist_ss, dist_ns]
        split
        · split <;> omega
        · omega
  | some r =>
    have h1 := pa r rfl
    cases b with
    | none =>
      cases c with
      | none => rw [dist_nn, dist_sn]; omega
      | some t =>
        have := pc t rfl
        rw [dist_sn, dist_sn, dist_ss]
        split
        · split <;> omega
        · omega
    | some s =>
      have h2 := pb s rfl
      cases c with
      | none =>
        rw [dist_sn, dist_ns, dist_ss]
        split
        · split <;> omega
        · omega
      | some t =>
        have h3 := pc t rfl
        rw [dist_ss, dist_ss, dist_ss]
        by_cases e1 : r.1 = t.1
        · by_cases e2 : t.1 = s.1
          · rw [if_pos e1, if_pos e2, if_pos (e1.trans e2)]
            split <;> split <;> split <;> omega
          · rw [if_pos e1, if_neg e2, if_neg (fun z => e2 (e1.symm.trans z))]
            split <;> omega
        · by_cases e2 : t.1 = s.1
          · rw [if_neg e1, if_pos e2, if_neg (show ¬ r.1 = s.1 from fun z => e1 (z.trans e2.symm))]
            split <;> omega
          · rw [if_neg e1, if_neg e2]
            split
            · split <;> omega
            · omega
/-- one arrival: the distance stays or falls by 2 -/
theorem dist_step {a b : Option Run} {k : Str} (pa : PosO a) (pb : PosO b) : distR (stepR a k 1) (stepR b k 1) = distR a b ∨ distR (stepR a k 1) (stepR b k 1) = distR a b - 2 := by
  have sn : stepR none k 1 = some (k, 1) := rfl
  have sp : ∀ r : Run, 1 ≤ r.2 → (r.1 = k ∧ stepR (some r) k 1 = some (k, r.2 + 1)) ∨ (r.1 ≠ k ∧ 2 ≤ r.2 ∧ stepR (some r) k 1 = some (r.1, r.2 - 1)) ∨ (r.1 ≠ k ∧ r.2 = 1 ∧ stepR (some r) k 1 = none) := by
    intro r h
    by_cases e : r.1 = k
    · exact .inl ⟨e, if_pos e⟩
    · have es : stepR (some r) k 1 = if 0 < r.2 - 1 then some (r.1, r.2 - 1) else if r.2 - 1 = 0 then none else some (k, -(r.2 - 1)) := if_neg e
      by_cases g : 2 ≤ r.2
      · rw [if_pos (by omega)] at es
        exact .inr (.inl ⟨e, g, es⟩)
      · rw [if_neg (by omega), if_pos (by omega)] at es
        exact .inr (.inr ⟨e, by omega, es⟩)
  cases a with
  | none =>
    cases b with
    | none =>
      rw [sn, dist_ss, if_pos rfl, dist_nn]
      left
      split <;> omega
    | some s =>
      have h2 := pb s rfl
      rcases sp s h2 with ⟨e, es⟩ | ⟨e, g, es⟩ | ⟨e, g, es⟩
      · rw [sn, es, dist_ss, dist_ns, if_pos rfl]
        left
        show (if 1 - (s.2 + 1) < 0 then -(1 - (s.2 + 1)) else 1 - (s.2 + 1)) = s.2
        split <;> omega
      · rw [sn, es, dist_ss, dist_ns, if_neg fun z => e z.symm]
        left
        show 1 + (s.2 - 1) = s.2
        omega
      · rw [sn, es, dist_sn, dist_ns]
        left
        show 1 = s.2
        omega
  | some r =>
    have h1 := pa r rfl
    cases b with
    | none =>
      rcases sp r h1 with ⟨e, es⟩ | ⟨e, g, es⟩ | ⟨e, g, es⟩
      · rw [sn, es, dist_ss, dist_sn, if_pos rfl]
        left
        show (if r.2 + 1 - 1 < 0 then -(r.2 + 1 - 1) else r.2 + 1 - 1) = r.2
        split <;> omega
      · rw [sn, es, dist_ss, dist_sn, if_neg e]
        left
        show r.2 - 1 + 1 = r.2
        omega
      · rw [sn, es, dist_ns, dist_sn]
        left
        show 1 = r.2
        omega
    | some s =>
      have h2 := pb s rfl
      rw [dist_ss r s]
      rcases sp r h1 with ⟨e, es⟩ | ⟨e, g, es⟩ | ⟨e, g, es⟩
      · rcases sp s h2 with ⟨f, fs⟩ | ⟨f, j, fs⟩ | ⟨f, j, fs⟩
        · rw [es, fs, dist_ss, if_pos rfl, if_pos (e.trans f.symm)]
          left
          show (if r.2 + 1 - (s.2 + 1) < 0 then -(r.2 + 1 - (s.2 + 1)) else r.2 + 1 - (s.2 + 1)) = _
          split <;> split <;> omega
        · rw [es, fs, dist_ss, if_neg (fun z => f z.symm), if_neg (fun z => f (z.symm.trans e))]
          left
          show r.2 + 1 + (s.2 - 1) = _
          omega
        · rw [es, fs, dist_sn, if_neg (fun z => f (z.symm.trans e))]
          left
          show r.2 + 1 = _
          omega
      · rcases sp s h2 with ⟨f, fs⟩ | ⟨f, j, fs⟩ | ⟨f, j, fs⟩
        · rw [es, fs, dist_ss, if_neg e, if_neg (fun z => e (z.trans f))]
          left
          show r.2 - 1 + (s.2 + 1) = _
          omega
        · rw [es, fs, dist_ss]
          show (if r.1 = s.1 then (if r.2 - 1 - (s.2 - 1) < 0 then -(r.2 - 1 - (s.2 - 1)) else r.2 - 1 - (s.2 - 1)) else r.2 - 1 + (s.2 - 1)) = _ ∨ (if r.1 = s.1 then (if r.2 - 1 - (s.2 - 1) < 0 then -(r.2 - 1 - (s.2 - 1)) else r.2 - 1 - (s.2 - 1)) else r.2 - 1 + (s.2 - 1)) = _
          by_cases u : r.1 = s.1
          · rw [if_pos u, if_pos u]
            left
            split <;> split <;> omega
          · rw [if_neg u, if_neg u]
            right
            omega
        · rw [es, fs, dist_sn]
          show r.2 - 1 = _ ∨ r.2 - 1 = _
          by_cases u : r.1 = s.1
          · rw [if_pos u]
            left
            split <;> omega
          · rw [if_neg u]
            right
            omega
      · rcases sp s h2 with ⟨f, fs⟩ | ⟨f, j, fs⟩ | ⟨f, j, fs⟩
        · rw [es, fs, dist_ns, if_neg (fun z => e (z.trans f))]
          left
          show s.2 + 1 = _
          omega
        · rw [es, fs, dist_ns]
          show s.2 - 1 = _ ∨ s.2 - 1 = _
          by_cases u : r.1 = s.1
          · rw [if_pos u]
            left
            split <;> omega
          · rw [if_neg u]
            right
            omega
        · rw [es, fs, dist_nn]
          by_cases u : r.1 = s.1
          · rw [if_pos u]
            left
            split <;> omega
          · rw [if_neg u]
            right
            omega
section
variable {P : Program} {w : World} {K : PySem.W.Frag} {mg : Str → Option Value} {base : Heap}
end
end UP

set_option Elab.async false
set_option linter.all false
set_option maxRecDepth 100000
set_option maxHeartbeats 4000000
namespace UP
open PySem PySem.Spec PyProof.Rows L2
theorem RB.rung {p : Addr} {H H' : Hp} {v : V} {r : Run} (b : RB p H H') (z : Reel H p) (h : RunG H v r) : RunG H' v r := by
  obtain ⟨t, e, h⟩ := h
  obtain ⟨_, _, _, _, _, _, hp, _⟩ := z
  refine ⟨t, e, h.elim (fun y => .inl (b.but _ _ (ne_of y hp (by intro q; cases q)) y)) (fun y => .inr (b.but _ _ (ne_of y hp (by intro q; cases q)) y))⟩
theorem RB.stg {p : Addr} {H H' : Hp} {v : V} {st : Option Run} (b : RB p H H') (z : Reel H p) (h : StG H v st) : StG H' v st := by
  cases st with
  | none => exact h
  | some r => exact b.rung z h
theorem stOk_step {a : Option Run} {k : Str} (h : StOk a) (kk : KindOk k) : StOk (stepR a k 1) := by
  intro r e
  have p := stepR_pos (k := k) (c := 1) (fun r e => (h r e).2) (by decide) r e
  refine ⟨?_, p⟩
  cases a with
  | none =>
    cases e
    exact kk
  | some s =>
    have hs := h s rfl
    by_cases e1 : s.1 = k
    · rw [show stepR (some s) k 1 = some (k, s.2 + 1) from if_pos e1] at e
      cases e
      exact kk
    · rw [show stepR (some s) k 1 = if 0 < s.2 - 1 then some (s.1, s.2 - 1) else if s.2 - 1 = 0 then none else some (k, -(s.2 - 1)) from if_neg e1] at e
      split at e
      · cases e
        exact hs.1
      · split at e
        · cases e
        · cases e
          exact kk
def dOt : Option Run → PyData
  | none => .none
  | some r => dRun r
theorem dp_o {K : PySem.W.Frag} {H : Hp} {v : V} {st : Option Run} (h : StV H v st) : Dp K H v (dOt st) := by
  cases st with
  | none =>
    cases h
    exact .non
  | some r => exact dp_run h
theorem shaped_o {st : Option Run} (h : StOk st) : SeqAt.shaped (dOt st) = true := by
  cases st with
  | none => decide
  | some r => exact shaped_run (h r rfl).1
theorem eqv_o (a b : Option Run) : PyData.eqv (dOt a) (dOt b) = decide (a = b) := by
  cases a with
  | none =>
    cases b with
    | none => simp [dOt, PyData.eqv]
    | some s => simp [dOt, dRun, PyData.eqv]
  | some r =>
    cases b with
    | none => simp [dOt, dRun, PyData.eqv]
    | some s =>
      obtain ⟨r1, r2⟩ := r
      obtain ⟨s1, s2⟩ := s
      simp [dOt, dRun, PyData.eqv, PyData.eqvAll]
      rw [Bool.eq_iff_iff]
      simp
theorem dps_stN {K : PySem.W.Frag} {H : Hp} {v : V} {st : Option Run} (h : StG H v st) (k : ∀ r, st = some r → KindOk r.1 ∧ r.2.natAbs < 10 ^ 60) : ∃ d, DpS K H v d ∧ Nice 404 1 d := by
  cases st with
  | none =>
    cases h
    exact ⟨.none, fun _ _ => .non, nice_none.mono (by decide) (by decide)⟩
  | some r => exact dps_run (K := K) h (k r rfl).1 (k r rfl).2
theorem nice_il {w : Nat} {l : List Int} (h : ∀ x ∈ l, x.natAbs < 10 ^ 60) (hw : 202 * l.length ≤ w) : Nice w 1 (.list (l.map PyData.int)) := by
  have := nice_list (w := 201) (n := 0) (ds := l.map PyData.int) fun d hd => by
    obtain ⟨x, hx, rfl⟩ := List.mem_map.mp hd
    exact nice_int (h x hx)
  exact this.mono (by rw [List.length_map]; omega) (Nat.le_refl _)
theorem dist_bd {a b : Option Run} (pa : PosO a) (pb : PosO b) {m : Int} (ha : ∀ r, a = some r → r.2 ≤ m) (hb : ∀ r, b = some r → r.2 ≤ m) (m0 : 0 ≤ m) : 0 ≤ distR a b ∧ distR a b ≤ 2 * m := by
  cases a with
  | none =>
    cases b with
    | none => rw [dist_nn]; omega
    | some s =>
      have := pb s rfl
      have := hb s rfl
      rw [dist_ns]; omega
  | some r =>
    have h1 := pa r rfl
    have h2 := ha r rfl
    cases b with
    | none => rw [dist_sn]; omega
    | some s =>
      have := pb s rfl
      have := hb s rfl
      rw [dist_ss]
      split
      · split <;> omega
      · omega
theorem p39 : (10 : Int) ^ ((39 : Int).toNat) = 1000000000000000000000000000000000000000 := by decide +kernel
end UP

set_option Elab.async false
set_option linter.all false
set_option maxRecDepth 100000
set_option maxHeartbeats 4000000
namespace UP
open PySem PySem.Spec PyProof.Rows L2
/-! ### meetings -/
def MW (a b : Option Run) (k : Str) (c : Int) : Prop := kdV a ≠ .str k ∧ kdV b ≠ .str k ∧ numR a = numR b ∧ numR b ≤ c
instance (a b : Option Run) (k : Str) (c : Int) : Decidable (MW a b k c) := by
  unfold MW
  infer_instance
theorem MW.comm {a b : Option Run} {k : Str} {c : Int} : MW a b k c ↔ MW b a k c := by
  unfold MW
  exact ⟨fun h => ⟨h.2.1, h.1, h.2.2.1.symm, by omega⟩, fun h => ⟨h.2.1, h.1, h.2.2.1.symm, by omega⟩⟩
theorem mw_nn {k : Str} {c : Int} : MW none none k c ↔ 0 ≤ c := ⟨fun h => h.2.2.2, fun h => ⟨by (intro z; cases z), by (intro z; cases z), rfl, h⟩⟩
theorem mw_ns {s : Run} {k : Str} {c : Int} : MW none (some s) k c ↔ s.1 ≠ k ∧ 0 = s.2 ∧ s.2 ≤ c := ⟨fun h => ⟨fun z => h.2.1 (by show V.str s.1 = V.str k; rw [z]), h.2.2.1, h.2.2.2⟩, fun h => ⟨by (intro z; cases z), fun z => h.1 (V.str.inj z), h.2.1, h.2.2⟩⟩
theorem mw_sn {s : Run} {k : Str} {c : Int} : MW (some s) none k c ↔ s.1 ≠ k ∧ s.2 = 0 ∧ 0 ≤ c := ⟨fun h => ⟨fun z => h.1 (by show V.str s.1 = V.str k; rw [z]), h.2.2.1, h.2.2.2⟩, fun h => ⟨fun z => h.1 (V.str.inj z), by (intro z; cases z), h.2.1, h.2.2⟩⟩
theorem mw_ss {r s : Run} {k : Str} {c : Int} : MW (some r) (some s) k c ↔ r.1 ≠ k ∧ s.1 ≠ k ∧ r.2 = s.2 ∧ s.2 ≤ c := ⟨fun h => ⟨fun z => h.1 (by show V.str r.1 = V.str k; rw [z]), fun z => h.2.1 (by show V.str s.1 = V.str k; rw [z]), h.2.2.1, h.2.2.2⟩, fun h => ⟨fun z => h.1 (V.str.inj z), fun z => h.2.1 (V.str.inj z), h.2.2⟩⟩
theorem step_cases {r : Run} {k : Str} {c : Int} : (r.1 = k ∧ stepR (some r) k c = some (k, r.2 + c)) ∨ (r.1 ≠ k ∧ c < r.2 ∧ stepR (some r) k c = some (r.1, r.2 - c)) ∨ (r.1 ≠ k ∧ r.2 = c ∧ stepR (some r) k c = none) ∨ (r.1 ≠ k ∧ r.2 < c ∧ stepR (some r) k c = some (k, c - r.2)) := by
  by_cases e : r.1 = k
  · exact .inl ⟨e, if_pos e⟩
  · have es : stepR (some r) k c = if 0 < r.2 - c then some (r.1, r.2 - c) else if r.2 - c = 0 then none else some (k, -(r.2 - c)) := if_neg e
    by_cases g : c < r.2
    · rw [if_pos (by omega)] at es
      exact .inr (.inl ⟨e, g, es⟩)
    · by_cases h : r.2 = c
      · rw [if_neg (by omega), if_pos (by omega)] at es
        exact .inr (.inr (.inl ⟨e, h, es⟩))
      · rw [if_neg (by omega), if_neg (by omega), show -(r.2 - c) = c - r.2 by omega] at es
        exact .inr (.inr (.inr ⟨e, by omega, es⟩))
theorem some_pair {a b : Str} {m n : Int} : (some (a, m) : Option Run) = some (b, n) ↔ a = b ∧ m = n := ⟨fun h => by cases h; exact ⟨rfl, rfl⟩, fun h => by rw [h.1, h.2]⟩
/-- within a run two different states become equal only together with the last of both -/
theorem meet_iff {a b : Option Run} {k : Str} {c : Int} (pa : PosO a) (pb : PosO b) (ne : a ≠ b) (c1 : 1 ≤ c) : stepR a k c = stepR b k c ↔ MW a b k c := by
  cases a with
  | none =>
    cases b with
    | none => exact absurd rfl ne
    | some s =>
      have h2 := pb s rfl
      rw [mw_ns, show stepR none k c = some (k, c) from rfl]
      rcases step_cases (r := s) (k := k) (c := c) with ⟨e, es⟩ | ⟨e, g, es⟩ | ⟨e, g, es⟩ | ⟨e, g, es⟩
      · rw [es, some_pair]
        exact ⟨fun z => (by omega), fun z => by omega⟩
      · rw [es, some_pair]
        exact ⟨fun z => absurd z.1.symm e, fun z => by omega⟩
      · rw [es]
        exact ⟨fun z => (by cases z), fun z => by omega⟩
      · rw [es, some_pair]
        exact ⟨fun z => (by omega), fun z => by omega⟩
  | some r =>
    have h1 := pa r rfl
    cases b with
    | none =>
      rw [mw_sn, show stepR none k c = some (k, c) from rfl]
      rcases step_cases (r := r) (k := k) (c := c) with ⟨e, es⟩ | ⟨e, g, es⟩ | ⟨e, g, es⟩ | ⟨e, g, es⟩
      · rw [es, some_pair]
        exact ⟨fun z => (by omega), fun z => by omega⟩
      · rw [es, some_pair]
        exact ⟨fun z => absurd z.1 e, fun z => by omega⟩
      · rw [es]
        exact ⟨fun z => (by cases z), fun z => by omega⟩
      · rw [es, some_pair]
        exact ⟨fun z => (by omega), fun z => by omega⟩
    | some s =>
      have h2 := pb s rfl
      have ne2 : ¬ (r.1 = s.1 ∧ r.2 = s.2) := fun z => ne (by rw [show r = s from Prod.ext z.1 z.2])
      rw [mw_ss]
      rcases step_cases (r := r) (k := k) (c := c) with ⟨e, es⟩ | ⟨e, g, es⟩ | ⟨e, g, es⟩ | ⟨e, g, es⟩
      · rcases step_cases (r := s) (k := k) (c := c) with ⟨f, fs⟩ | ⟨f, j, fs⟩ | ⟨f, j, fs⟩ | ⟨f, j, fs⟩
        · rw [es, fs, some_pair]
          exact ⟨fun z => absurd ⟨e.trans f.symm, by omega⟩ ne2, fun z => absurd e z.1⟩
        · rw [es, fs, some_pair]
          exact ⟨fun z => absurd z.1.symm f, fun z => absurd e z.1⟩
        · rw [es, fs]
          exact ⟨fun z => (by cases z), fun z => absurd e z.1⟩
        · rw [es, fs, some_pair]
          exact ⟨fun z => (by omega), fun z => absurd e z.1⟩
      · rcases step_cases (r := s) (k := k) (c := c) with ⟨f, fs⟩ | ⟨f, j, fs⟩ | ⟨f, j, fs⟩ | ⟨f, j, fs⟩
        · rw [es, fs, some_pair]
          exact ⟨fun z => absurd z.1 e, fun z => absurd f z.2.1⟩
        · rw [es, fs, some_pair]
          exact ⟨fun z => absurd ⟨z.1, by omega⟩ ne2, fun z => by omega⟩
        · rw [es, fs]
          exact ⟨fun z => (by cases z), fun z => by omega⟩
        · rw [es, fs, some_pair]
          exact ⟨fun z => absurd z.1 e, fun z => by omega⟩
      · rcases step_cases (r := s) (k := k) (c := c) with ⟨f, fs⟩ | ⟨f, j, fs⟩ | ⟨f, j, fs⟩ | ⟨f, j, fs⟩
        · rw [es, fs]
          exact ⟨fun z => (by cases z), fun z => absurd f z.2.1⟩
        · rw [es, fs]
          exact ⟨fun z => (by cases z), fun z => by omega⟩
        · rw [es, fs]
          exact ⟨fun _ => ⟨e, f, by omega, by omega⟩, fun _ => rfl⟩
        · rw [es, fs]
          exact ⟨fun z => (by cases z), fun z => by omega⟩
      · rcases step_cases (r := s) (k := k) (c := c) with ⟨f, fs⟩ | ⟨f, j, fs⟩ | ⟨f, j, fs⟩ | ⟨f, j, fs⟩
        · rw [es, fs, some_pair]
          exact ⟨fun z => (by omega), fun z => absurd f z.2.1⟩
        · rw [es, fs, some_pair]
          exact ⟨fun z => absurd z.1.symm f, fun z => by omega⟩
        · rw [es, fs]
          exact ⟨fun z => (by cases z), fun z => by omega⟩
        · rw [es, fs, some_pair]
          exact ⟨fun z => ⟨e, f, by omega, by omega⟩, fun z => ⟨rfl, by omega⟩⟩
/-- the moment, run by run; the states are different at the beginning -/
def mgR : List Run → Option Run → Option Run → Int → Option Int
  | [], _, _, _ => none
  | r :: t, a, b, s => if MW a b r.1 r.2 then some (s + numR a) else mgR t (stepR a r.1 r.2) (stepR b r.1 r.2) (s + r.2)
def mmR (rs : List Run) (a b : Option Run) : Option Int := if a = b then some 0 else mgR rs a b 0
theorem mg_comm : ∀ (rs : List Run) (a b : Option Run) (s : Int), mgR rs a b s = mgR rs b a s
  | [], _, _, _ => rfl
  | r :: t, a, b, s => by
    show (if MW a b r.1 r.2 then some (s + numR a) else mgR t (stepR a r.1 r.2) (stepR b r.1 r.2) (s + r.2)) = (if MW b a r.1 r.2 then some (s + numR b) else mgR t (stepR b r.1 r.2) (stepR a r.1 r.2) (s + r.2))
    by_cases h : MW a b r.1 r.2
    · rw [if_pos h, if_pos (MW.comm.mp h), h.2.2.1]
    · rw [if_neg h, if_neg fun z => h (MW.comm.mp z), mg_comm t]
theorem mm_comm (rs : List Run) (a b : Option Run) : mmR rs a b = mmR rs b a := by
  unfold mmR
  by_cases h : a = b
  · rw [if_pos h, if_pos h.symm]
  · rw [if_neg h, if_neg fun z => h z.symm, mg_comm]
theorem lenR_nn {rs : List Run} (k : ∀ r ∈ rs, 1 ≤ r.2) : 0 ≤ lenR rs := by
  rw [← len_it rs k]
  exact Int.natCast_nonneg _
theorem num_nn {a : Option Run} (p : PosO a) : 0 ≤ numR a := by
  cases a with
  | none => exact Int.le_refl _
  | some r =>
    have := p r rfl
    show 0 ≤ r.2
    omega
theorem mg_bd : ∀ (rs : List Run) (a b : Option Run) (s m : Int), (∀ r ∈ rs, 1 ≤ r.2) → PosO a → PosO b → mgR rs a b s = some m → s ≤ m ∧ m ≤ s + lenR rs
  | [], _, _, _, _, _, _, _, h => by cases h
  | r :: t, a, b, s, m, k, pa, pb, h => by
    have c1 := k r (List.mem_cons_self ..)
    have kt : ∀ x ∈ t, 1 ≤ x.2 := fun x hx => k x (List.mem_cons_of_mem _ hx)
    have lt : 0 ≤ lenR t := lenR_nn kt
    have h : (if MW a b r.1 r.2 then some (s + numR a) else mgR t (stepR a r.1 r.2) (stepR b r.1 r.2) (s + r.2)) = some m := h
    rw [lenR_cons]
    by_cases g : MW a b r.1 r.2
    · rw [if_pos g] at h
      have h := Option.some.inj h
      have := num_nn pa
      have := g.2.2
      omega
    · rw [if_neg g] at h
      have := mg_bd t _ _ _ m kt (stepR_pos pa c1) (stepR_pos pb c1) h
      omega
theorem mg_end : ∀ (rs : List Run) (a b : Option Run) (s m : Int), (∀ r ∈ rs, 1 ≤ r.2) → PosO a → PosO b → a ≠ b → mgR rs a b s = some m → stR rs a = stR rs b
  | [], _, _, _, _, _, _, _, _, h => by cases h
  | r :: t, a, b, s, m, k, pa, pb, ne, h => by
    have c1 := k r (List.mem_cons_self ..)
    have kt : ∀ x ∈ t, 1 ≤ x.2 := fun x hx => k x (List.mem_cons_of_mem _ hx)
    have h : (if MW a b r.1 r.2 then some (s + numR a) else mgR t (stepR a r.1 r.2) (stepR b r.1 r.2) (s + r.2)) = some m := h
    rw [stR_cons, stR_cons]
    by_cases g : MW a b r.1 r.2
    · rw [(meet_iff pa pb ne c1).mpr g]
    · rw [if_neg g] at h
      exact mg_end t _ _ _ m kt (stepR_pos pa c1) (stepR_pos pb c1) (fun z => g ((meet_iff pa pb ne c1).mp z)) h
theorem mm_end {rs : List Run} {a b : Option Run} {m : Int} (k : ∀ r ∈ rs, 1 ≤ r.2) (pa : PosO a) (pb : PosO b) (h : mmR rs a b = some m) : stR rs a = stR rs b := by
  unfold mmR at h
  by_cases e : a = b
  · rw [e]
  · rw [if_neg e] at h
    exact mg_end rs a b 0 m k pa pb e h
theorem mm_bd {rs : List Run} {a b : Option Run} {m : Int} (k : ∀ r ∈ rs, 1 ≤ r.2) (pa : PosO a) (pb : PosO b) (h : mmR rs a b = some m) : 0 ≤ m ∧ m ≤ lenR rs := by
  unfold mmR at h
  by_cases e : a = b
  · rw [if_pos e] at h
    cases h
    exact ⟨Int.le_refl _, lenR_nn k⟩
  · rw [if_neg e] at h
    have := mg_bd rs a b 0 m k pa pb h
    omega
/-- item by item -/
def fewI : List Str → Option Run → Option Run → Int → Option Int
  | [], a, b, m => if a = b then some m else none
  | k :: t, a, b, m => if a = b then some m else fewI t (stepR a k 1) (stepR b k 1) (m + 1)
theorem few_eq {l : List Str} {a : Option Run} {m : Int} : fewI l a a m = some m := by
  cases l with
  | nil => exact if_pos rfl
  | cons k t => exact if_pos rfl
theorem few_run : ∀ (c : Nat) (k : Str) (rest : List Str) (a b : Option Run) (m : Int), PosO a → PosO b → a ≠ b → fewI (List.replicate (c + 1) k ++ rest) a b m = if MW a b k ((c : Int) + 1) then some (m + numR a) else fewI rest (stepR a k ((c : Int) + 1)) (stepR b k ((c : Int) + 1)) (m + ((c : Int) + 1))
  | c, k, rest, a, b, m, pa, pb, ne => by
    have h1 : fewI (List.replicate (c + 1) k ++ rest) a b m = fewI (List.replicate c k ++ rest) (stepR a k 1) (stepR b k 1) (m + 1) := by
      rw [List.replicate_succ]
      exact if_neg ne
    have pa1 := stepR_pos (k := k) (c := 1) pa (by decide)
    have pb1 := stepR_pos (k := k) (c := 1) pb (by decide)
    have i1 := meet_iff (k := k) (c := 1) pa pb ne (by decide)
    rw [h1]
    by_cases e : stepR a k 1 = stepR b k 1
    · have w := i1.mp e
      have w2 : MW a b k ((c : Int) + 1) := ⟨w.1, w.2.1, w.2.2.1, by have := w.2.2.2; omega⟩
      have na : numR a = 1 := by
        have h3 := num_nn pa
        have h4 := w.2.2
        rcases (show numR a = 1 ∨ numR a = 0 by omega) with z | z
        · exact z
        · exfalso
          have an : a = none := by
            cases a with
            | none => rfl
            | some r =>
              have := pa r rfl
              have z : r.2 = 0 := z
              omega
          have bn : b = none := by
            cases b with
            | none => rfl
            | some r =>
              have := pb r rfl
              have z2 : r.2 = numR (some r) := rfl
              omega
          exact ne (an.trans bn.symm)
      rw [e, few_eq, if_pos w2, na]
    · cases c with
      | zero =>
        have w2 : ¬ MW a b k (((0 : Nat) : Int) + 1) := fun z => e (i1.mpr z)
        rw [if_neg w2]
        rfl
      | succ c =>
        have ih := few_run c k rest (stepR a k 1) (stepR b k 1) (m + 1) pa1 pb1 e
        rw [ih]
        have ea := step_step (s := a) (k := k) (c := (c : Int) + 1) pa (by omega)
        have eb := step_step (s := b) (k := k) (c := (c : Int) + 1) pb (by omega)
        have cc : (1 : Int) + ((c : Int) + 1) = (((c + 1 : Nat) : Int) + 1) := by omega
        rw [cc] at ea eb
        have iff1 := meet_iff (k := k) (c := (c : Int) + 1) pa1 pb1 e (by omega)
        have iff2 := meet_iff (k := k) (c := ((c + 1 : Nat) : Int) + 1) pa pb ne (by omega)
        rw [ea, eb] at iff1
        by_cases g : MW a b k (((c + 1 : Nat) : Int) + 1)
        · have g1 := iff1.mp (iff2.mpr g)
          rw [if_pos g, if_pos g1]
          congr 1
          cases a with
          | none =>
            exfalso
            have := g.2.2.1
            cases b with
            | none => exact ne rfl
            | some s =>
              have h2 := pb s rfl
              have : (0 : Int) = s.2 := this
              omega
          | some r =>
            have rk : r.1 ≠ k := fun z => g.1 (by show V.str r.1 = V.str k; rw [z])
            rcases step_cases (r := r) (k := k) (c := 1) with ⟨f, fs⟩ | ⟨f, j, fs⟩ | ⟨f, j, fs⟩ | ⟨f, j, fs⟩
            · exact absurd f rk
            · rw [fs]
              show m + 1 + (r.2 - 1) = m + r.2
              omega
            · exfalso
              have gb := g.2.2.1
              cases b with
              | none =>
                have gb : r.2 = 0 := gb
                omega
              | some s =>
                have sk : s.1 ≠ k := fun z => g.2.1 (by show V.str s.1 = V.str k; rw [z])
                have gb : r.2 = s.2 := gb
                rcases step_cases (r := s) (k := k) (c := 1) with ⟨u, us⟩ | ⟨u, v, us⟩ | ⟨u, v, us⟩ | ⟨u, v, us⟩
                · exact sk u
                · omega
                · exact e (by rw [fs, us])
                · omega
            · have := pa r rfl
              omega
        · have g1 : ¬ MW (stepR a k 1) (stepR b k 1) k ((c : Int) + 1) := fun z => g (iff2.mp (iff1.mpr z))
          rw [if_neg g, if_neg g1, ea, eb, show m + 1 + ((c : Int) + 1) = m + (((c + 1 : Nat) : Int) + 1) by omega]
theorem few_mg : ∀ (rs : List Run) (a b : Option Run) (m : Int), (∀ r ∈ rs, 1 ≤ r.2) → PosO a → PosO b → a ≠ b → fewI (itR rs) a b m = mgR rs a b m
  | [], _, _, _, _, _, _, ne => if_neg ne
  | r :: t, a, b, m, k, pa, pb, ne => by
    have c1 := k r (List.mem_cons_self ..)
    have kt : ∀ x ∈ t, 1 ≤ x.2 := fun x hx => k x (List.mem_cons_of_mem _ hx)
    obtain ⟨c, hc⟩ : ∃ c : Nat, r.2.toNat = c + 1 := ⟨r.2.toNat - 1, by omega⟩
    have er : ((c : Int) + 1) = r.2 := by omega
    have e : itR (r :: t) = List.replicate r.2.toNat r.1 ++ itR t := rfl
    rw [e, hc, few_run c r.1 (itR t) a b m pa pb ne, er]
    show _ = (if MW a b r.1 r.2 then some (m + numR a) else mgR t (stepR a r.1 r.2) (stepR b r.1 r.2) (m + r.2))
    by_cases g : MW a b r.1 r.2
    · rw [if_pos g, if_pos g]
    · rw [if_neg g, if_neg g]
      exact few_mg t _ _ _ kt (stepR_pos pa c1) (stepR_pos pb c1) (fun z => g ((meet_iff pa pb ne c1).mp z))
theorem few_mm {rs : List Run} {a b : Option Run} (k : ∀ r ∈ rs, 1 ≤ r.2) (pa : PosO a) (pb : PosO b) : fewI (itR rs) a b 0 = mmR rs a b := by
  unfold mmR
  by_cases e : a = b
  · rw [if_pos e, e, few_eq]
  · rw [if_neg e]
    exact few_mg rs a b 0 k pa pb e
def oV : Option Int → V
  | none => .non
  | some i => .int i
section
variable {P : Program} {w : World} {K : PySem.W.Frag} {mg : Str → Option Value} {base : Heap}
end
end UP

set_option Elab.async false
set_option linter.all false
set_option maxRecDepth 100000
set_option maxHeartbeats 4000000
namespace UP
open PySem PySem.Spec PyProof.Rows L2
theorem Reel.runs_ne {H : Hp} {p a : Addr} {rs : List Run} (z : Reel H p) (h : Runs H a rs) : a ≠ p := by
  obtain ⟨xs, e, hp⟩ := h
  obtain ⟨g, c, gs, cs, n, s, hs, _⟩ := z
  refine ne_of e hs fun q => ?_
  have q := HO.lst.inj q
  subst q
  cases hp with
  | cons _ hp =>
  cases hp with
  | cons _ hp =>
  cases hp with
  | cons h _ =>
    obtain ⟨t, e, _⟩ := h
    cases e
theorem RB.runs {p a : Addr} {H H' : Hp} {rs : List Run} (b : RB p H H') (z : Reel H p) (h : Runs H a rs) : Runs H' a rs := by
  have n := z.runs_ne h
  obtain ⟨xs, e, hp⟩ := h
  exact ⟨xs, b.but _ _ n e, Paired.imp (fun _ _ => b.run z) hp⟩
theorem altR_snoc {l : List Run} {x : Run} (h : Alt l) (k : ∀ y, l[l.length - 1]? = some y → y.1 ≠ x.1) : Alt (l ++ [x]) := alt_snoc h k
section
variable {P : Program} {w : World} {K : PySem.W.Frag} {mg : Str → Option Value} {base : Heap}
end
end UP

set_option Elab.async false
set_option linter.all false
set_option maxRecDepth 100000
set_option maxHeartbeats 4000000
namespace UP
open PySem PySem.Spec PyProof.Rows L2
theorem stOk_stepC {a : Option Run} {k : Str} {c : Int} (h : StOk a) (kk : KindOk k) (c1 : 1 ≤ c) : StOk (stepR a k c) := by
  intro r e
  have p := stepR_pos (k := k) (c := c) (fun r e => (h r e).2) c1 r e
  refine ⟨?_, p⟩
  cases a with
  | none =>
    cases e
    exact kk
  | some s =>
    have hs := h s rfl
    rcases step_cases (r := s) (k := k) (c := c) with ⟨_, es⟩ | ⟨_, _, es⟩ | ⟨_, _, es⟩ | ⟨_, _, es⟩
    · rw [es] at e
      cases e
      exact kk
    · rw [es] at e
      cases e
      exact hs.1
    · rw [es] at e
      cases e
    · rw [es] at e
      cases e
      exact kk
theorem MW.pos {a b : Option Run} {k : Str} {c : Int} (pa : PosO a) (pb : PosO b) (ne : a ≠ b) (h : MW a b k c) : ∃ r, a = some r ∧ r.1 ≠ k ∧ r.2 ≤ c ∧ 1 ≤ r.2 := by
  cases a with
  | none =>
    cases b with
    | none => exact absurd rfl ne
    | some s =>
      have := pb s rfl
      have := mw_ns.mp h
      omega
  | some r =>
    refine ⟨r, rfl, fun z => h.1 (by show V.str r.1 = V.str k; rw [z]), ?_, pa r rfl⟩
    have h1 : r.2 = numR b := h.2.2.1
    have h2 := h.2.2.2
    omega
section
variable {P : Program} {w : World} {K : PySem.W.Frag} {mg : Str → Option Value} {base : Heap}
end
end UP

set_option Elab.async false
set_option linter.all false
set_option maxRecDepth 100000
set_option maxHeartbeats 4000000
namespace UP
open PySem PySem.Spec PyProof.Rows L2
section
variable {X : Cx} {K : PySem.W.Frag}
theorem op_notIn_seqK (h : X.K = K) : OpR X (compareOp .NotIn) (rIn K true) := h ▸ op_notIn_seq
theorem op_in_seqK (h : X.K = K) : OpR X (compareOp .In) (rIn K false) := h ▸ op_in_seq
end
/-! ### lists of kinds -/
def KsOk (ks : List Str) : Prop := 0 < ks.length ∧ ks.length ≤ 12 ∧ (∀ k ∈ ks, KindOk k) ∧ ∀ (i : Nat) (x y : Str), ks[i]? = some x → ks[i + 1]? = some y → x.cps.toList < y.cps.toList
theorem strR_of {x y : Str} (h : x.cps.toList = y.cps.toList) : x = y := by
  cases x with
  | mk a =>
    cases y with
    | mk b =>
      congr 1
      exact Array.ext' h
theorem rising_next : ∀ (l : List Str) (p : Str), risingS p l = true → ∀ (i : Nat) (x y : Str), (p :: l)[i]? = some x → (p :: l)[i + 1]? = some y → ltCps y.cps.toList x.cps.toList = false
  | [], p, _, i, x, y, _, h2 => by simp at h2
  | z :: t, p, h, 0, x, y, h1, h2 => by
    cases h1
    cases h2
    have h : (!ltCps z.cps.toList p.cps.toList && risingS z t) = true := h
    rw [Bool.and_eq_true] at h
    have := h.1
    cases e : ltCps z.cps.toList p.cps.toList with
    | false => rfl
    | true => rw [e] at this; cases this
  | z :: t, p, h, i + 1, x, y, h1, h2 => by
    have h : (!ltCps z.cps.toList p.cps.toList && risingS z t) = true := h
    rw [Bool.and_eq_true] at h
    exact rising_next t z h.2 i x y h1 h2
theorem ks_of {ks : List Str} (l0 : 0 < ks.length) (l1 : ks.length ≤ 12) (ok : ∀ k ∈ ks, KindOk k) (nd : ks.Nodup ∧ sortedS ks = true) : KsOk ks := by
  refine ⟨l0, l1, ok, fun i x y hx hy => ?_⟩
  cases ks with
  | nil => cases hx
  | cons p t =>
    have h := rising_next t p nd.2 i x y hx hy
    rw [ltCps_eq] at h
    have h := of_decide_eq_false h
    by_cases c : x.cps.toList < y.cps.toList
    · exact c
    · exfalso
      have e : x = y := strR_of (List.le_antisymm h c)
      obtain ⟨h1, e1⟩ := List.getElem?_eq_some_iff.mp hx
      obtain ⟨h2, e2⟩ := List.getElem?_eq_some_iff.mp hy
      have i1 := List.Nodup.idxOf_getElem nd.1 i h1
      have i2 := List.Nodup.idxOf_getElem nd.1 (i + 1) h2
      rw [e1, e] at i1
      rw [e2] at i2
      omega
/-! ### who can meet -/
def TwoK (ks : List Str) (a : Option Run) : Prop := ∃ k1 ∈ ks, ∃ k2 ∈ ks, k1 ≠ k2 ∧ kdV a ≠ .str k1 ∧ kdV a ≠ .str k2
def CanM (ks : List Str) (a b : Option Run) : Prop := (numR a - numR b) % 2 = 0 ∧ ((numR a = numR b ∧ ∃ k ∈ ks, kdV a ≠ .str k ∧ kdV b ≠ .str k) ∨ (numR b < numR a ∧ TwoK ks a) ∨ (numR a < numR b ∧ TwoK ks b))
def mxR (a b : Option Run) : Int := if numR a < numR b then numR b else numR a
def MeetOk (ks : List Str) (a b : Option Run) (rs : List Run) : Prop := (∀ r ∈ rs, r.1 ∈ ks ∧ 1 ≤ r.2) ∧ Alt rs ∧ rs.length ≤ 2 ∧ lenR rs = mxR a b ∧ stR rs a = none ∧ stR rs b = none ∧ mmR rs a b = some (mxR a b)
theorem mx_comm (a b : Option Run) : mxR a b = mxR b a := by
  unfold mxR
  split <;> split <;> omega
theorem can_comm {ks : List Str} {a b : Option Run} (h : CanM ks a b) : CanM ks b a := by
  refine ⟨by have := h.1; omega, ?_⟩
  rcases h.2 with ⟨e, k, hk, h1, h2⟩ | h | h
  · exact .inl ⟨e.symm, k, hk, h2, h1⟩
  · exact .inr (.inr h)
  · exact .inr (.inl h)
theorem meet_comm {ks : List Str} {a b : Option Run} {rs : List Run} (h : MeetOk ks a b rs) : MeetOk ks b a rs := by
  obtain ⟨h1, h2, h3, h4, h5, h6, h7⟩ := h
  exact ⟨h1, h2, h3, h4.trans (mx_comm a b), h6, h5, by rw [mm_comm, h7, mx_comm]⟩
theorem alt_one (r : Run) : Alt [r] := fun i x y h1 h2 => by
  cases i with
  | zero => simp at h2
  | succ i => simp at h2
theorem alt_two {r s : Run} (h : r.1 ≠ s.1) : Alt [r, s] := fun i x y h1 h2 => by
  cases i with
  | zero =>
    cases h1
    cases h2
    exact h
  | succ i =>
    cases i with
    | zero => simp at h2
    | succ i => simp at h2
theorem meet_one {ks : List Str} {a b : Option Run} {k : Str} (pa : PosO a) (pb : PosO b) (ne : a ≠ b) (e : numR a = numR b) (hk : k ∈ ks) (h1 : kdV a ≠ .str k) (h2 : kdV b ≠ .str k) : MeetOk ks a b [(k, numR a)] := by
  have w : MW a b k (numR a) := ⟨h1, h2, e, by omega⟩
  obtain ⟨r, er, rk, _, r1⟩ := w.pos pa pb ne
  obtain ⟨s, es, sk, _, s1⟩ := (MW.comm.mp w).pos pb pa (fun z => ne z.symm)
  subst er
  subst es
  have e : r.2 = s.2 := e
  have sa : stepR (some r) k r.2 = none := by
    rcases step_cases (r := r) (k := k) (c := r.2) with ⟨f, _⟩ | ⟨_, f, _⟩ | ⟨_, _, f⟩ | ⟨_, f, _⟩
    · exact absurd f rk
    · omega
    · exact f
    · omega
  have sb : stepR (some s) k r.2 = none := by
    rcases step_cases (r := s) (k := k) (c := r.2) with ⟨f, _⟩ | ⟨_, f, _⟩ | ⟨_, _, f⟩ | ⟨_, f, _⟩
    · exact absurd f sk
    · omega
    · exact f
    · omega
  have mx : mxR (some r) (some s) = r.2 := by
    unfold mxR
    show (if r.2 < s.2 then s.2 else r.2) = r.2
    split <;> omega
  refine ⟨fun x hx => ?_, alt_one _, by show 1 ≤ 2; decide, ?_, sa, sb, ?_⟩
  · rw [List.mem_singleton.mp hx]
    exact ⟨hk, r1⟩
  · rw [lenR_cons, lenR_nil, mx]
    show r.2 + 0 = r.2
    omega
  · rw [mx]
    unfold mmR
    rw [if_neg ne]
    show (if MW (some r) (some s) k r.2 then some (0 + r.2) else _) = _
    rw [if_pos (show MW (some r) (some s) k r.2 from w), Int.zero_add]
theorem meet_two {ks : List Str} {a b : Option Run} {f g : Str} (pa : PosO a) (pb : PosO b) (lt : numR b < numR a) (ev : (numR a - numR b) % 2 = 0) (hf : f ∈ ks) (hg : g ∈ ks) (h1 : kdV a ≠ .str f) (h2 : kdV b ≠ .str f) (h3 : kdV a ≠ .str g) (fg : f ≠ g) :
    MeetOk ks a b [(f, numR b + (numR a - numR b) / 2), (g, (numR a - numR b) / 2)] := by
  have b0 := num_nn pb
  obtain ⟨h, eh⟩ : ∃ h, (numR a - numR b) / 2 = h := ⟨_, rfl⟩
  have hh : numR a - numR b = 2 * h := by omega
  rw [eh]
  have ne : a ≠ b := fun z => by rw [z] at lt; omega
  cases a with
  | none =>
    have lt : numR b < 0 := lt
    omega
  | some r =>
    have rf : r.1 ≠ f := fun z => h1 (by show V.str r.1 = V.str f; rw [z])
    have rg : r.1 ≠ g := fun z => h3 (by show V.str r.1 = V.str g; rw [z])
    have hr : r.2 - numR b = 2 * h := hh
    have h0 : 1 ≤ h := by
      have lt : numR b < r.2 := lt
      omega
    have sa : stepR (some r) f (numR b + h) = some (r.1, h) := by
      rcases step_cases (r := r) (k := f) (c := numR b + h) with ⟨x, _⟩ | ⟨_, _, x⟩ | ⟨_, x, _⟩ | ⟨_, x, _⟩
      · exact absurd x rf
      · rw [x, show r.2 - (numR b + h) = h by omega]
      · omega
      · omega
    have sb : stepR b f (numR b + h) = some (f, h) := by
      cases b with
      | none =>
        show some (f, 0 + h) = some (f, h)
        rw [Int.zero_add]
      | some s =>
        have sf : s.1 ≠ f := fun z => h2 (by show V.str s.1 = V.str f; rw [z])
        have : numR (some s) = s.2 := rfl
        rcases step_cases (r := s) (k := f) (c := numR (some s) + h) with ⟨x, _⟩ | ⟨_, x, _⟩ | ⟨_, x, _⟩ | ⟨_, _, x⟩
        · exact absurd x sf
        · omega
        · omega
        · rw [x, show numR (some s) + h - s.2 = h by omega]
    have ta : stepR (some (r.1, h)) g h = none := by
      rcases step_cases (r := (r.1, h)) (k := g) (c := h) with ⟨x, _⟩ | ⟨_, x, _⟩ | ⟨_, _, x⟩ | ⟨_, x, _⟩
      · exact absurd x rg
      · have x : h < h := x; omega
      · exact x
      · have x : h < h := x; omega
    have tb : stepR (some (f, h)) g h = none := by
      rcases step_cases (r := (f, h)) (k := g) (c := h) with ⟨x, _⟩ | ⟨_, x, _⟩ | ⟨_, _, x⟩ | ⟨_, x, _⟩
      · exact absurd x fg
      · have x : h < h := x; omega
      · exact x
      · have x : h < h := x; omega
    have mx : mxR (some r) b = r.2 := by
      unfold mxR
      rw [if_neg (by omega)]
      rfl
    refine ⟨fun x hx => ?_, alt_two fg, Nat.le_refl _, ?_, ?_, ?_, ?_⟩
    · rcases List.mem_cons.mp hx with e | e
      · rw [e]
        exact ⟨hf, by show 1 ≤ numR b + h; omega⟩
      · rw [List.mem_singleton.mp e]
        exact ⟨hg, h0⟩
    · rw [lenR_cons, lenR_cons, lenR_nil, mx]
      show numR b + h + (h + 0) = r.2
      omega
    · rw [stR_cons, stR_cons]
      show stR [] (stepR (stepR (some r) f (numR b + h)) g h) = none
      rw [sa, ta]
      rfl
    · rw [stR_cons, stR_cons]
      show stR [] (stepR (stepR b f (numR b + h)) g h) = none
      rw [sb, tb]
      rfl
    · rw [mx]
      unfold mmR
      rw [if_neg ne]
      show (if MW (some r) b f (numR b + h) then _ else mgR [(g, h)] (stepR (some r) f (numR b + h)) (stepR b f (numR b + h)) (0 + (numR b + h))) = _
      rw [if_neg (fun z : MW (some r) b f (numR b + h) => by have z : r.2 = numR b := z.2.2.1; omega), sa, sb]
      show (if MW (some (r.1, h)) (some (f, h)) g h then some (0 + (numR b + h) + h) else _) = _
      rw [if_pos (show MW (some (r.1, h)) (some (f, h)) g h from mw_ss.mpr ⟨rg, fg, rfl, Int.le_refl _⟩), show 0 + (numR b + h) + h = r.2 by omega]
def fk (x y : V) (k : Str) : Bool := !inV (.str k) [x, y]
theorem eqV_kd (a : Option Run) (k : Str) : eqV (kdV a) (.str k) = decide (kdV a = .str k) := by
  cases a with
  | none =>
    show false = _
    rw [decide_eq_false (by intro z; cases z)]
  | some r =>
    show (r.1 == k) = decide (V.str r.1 = V.str k)
    rw [Bool.eq_iff_iff]
    simp
theorem fk_iff {a b : Option Run} {k : Str} : fk (kdV a) (kdV b) k = true ↔ kdV a ≠ .str k ∧ kdV b ≠ .str k := by
  unfold fk inV
  simp only [List.any_cons, List.any_nil, Bool.or_false, eqV_kd]
  by_cases h1 : kdV a = .str k
  · simp [h1]
  · by_cases h2 : kdV b = .str k
    · simp [h1, h2]
    · simp [h1, h2]
theorem fk_str {a : Option Run} {f k : Str} : fk (kdV a) (.str f) k = true ↔ kdV a ≠ .str k ∧ f ≠ k := by
  have := fk_iff (a := a) (b := some (f, 1)) (k := k)
  rw [show kdV (some (f, (1 : Int))) = .str f from rfl] at this
  rw [this]
  exact ⟨fun h => ⟨h.1, fun z => h.2 (by rw [z])⟩, fun h => ⟨h.1, fun z => h.2 (V.str.inj z)⟩⟩
theorem flat_kd (a : Option Run) : flatV (kdV a) = true := by
  cases a <;> rfl
theorem dp_strl {K : PySem.W.Frag} {H : Hp} : ∀ (l : List Str), DpAll K H (l.map V.str) (l.map PyData.str)
  | [] => .nil
  | x :: t => .cons (.str x) (dp_strl t)
theorem shaped_strl {l : List Str} (h : ∀ s ∈ l, KindOk s) : SeqAt.shaped (.list (l.map PyData.str)) = true := by
  have c : ∀ {l : List Str}, (∀ s ∈ l, KindOk s) → PyData.canLayAll0 (l.map PyData.str) = true ∧ PyData.depthAll (l.map PyData.str) ≤ 1 := by
    intro l h
    induction l with
    | nil => exact ⟨by simp [PyData.canLayAll0], by simp [PyData.depthAll]⟩
    | cons x t ih =>
      obtain ⟨h1, h2⟩ := ih fun s hs => h s (List.mem_cons_of_mem _ hs)
      refine ⟨?_, ?_⟩
      · rw [List.map_cons, PyData.canLayAll0, h1]
        simp [PyData.canLay0, (h x (List.mem_cons_self ..)).str]
      · rw [List.map_cons, PyData.depthAll]
        exact Nat.max_le.mpr ⟨by simp [PyData.depth], h2⟩
  obtain ⟨h1, h2⟩ := c h
  unfold SeqAt.shaped
  rw [PyData.canLay0, h1, PyData.depth]
  exact decide_eq_true (by omega)
theorem eqv_nilS (l : List Str) : PyData.eqv (.list (l.map PyData.str)) (.list []) = l.isEmpty := by
  cases l with
  | nil => simp [PyData.eqv, PyData.eqvAll]
  | cons r t => simp [PyData.eqv, PyData.eqvAll]
theorem filter_snoc {p : Str → Bool} {l : List Str} {i : Nat} {x : Str} (h : l[i]? = some x) : (l.take (i + 1)).filter p = (l.take i).filter p ++ if p x = true then [x] else [] := by
  rw [take_snoc h, List.filter_append]
  congr 1
  cases e : p x <;> simp [e]
theorem str_at {ks : List Str} {i : Nat} {x : V} (h : (ks.map V.str)[i]? = some x) : ∃ k, ks[i]? = some k ∧ x = .str k := by
  rw [List.getElem?_map] at h
  cases e : ks[i]? with
  | none =>
    rw [e] at h
    cases h
  | some n =>
    rw [e] at h
    exact ⟨n, rfl, (Option.some.inj h).symm⟩
section
variable {P : Program} {w : World} {K : PySem.W.Frag} {mg : Str → Option Value} {base : Heap}
/-! is_kinds: slots 0:value 1:kind 2:following -/
abbrev s_is_kinds : Stmt := topS 32
theorem sc_is_kinds : FnScope ["value", "kind", "following"] ["value"] (defScope s_is_kinds) := ⟨rfl, rfl, rfl, by decide +kernel, rfl, by decide +kernel, by decide +kernel⟩
def sp_is_kinds : Sp := fun vs H Q _ => ∃ (a : Addr) (ks : List Str), vs = [.ref a] ∧ Sq2 H a (ks.map V.str) ∧ KsOk ks ∧ ∀ H', Same H H' → Q (.bl true) H'
theorem ok_is_kinds (D : Df K mg "is_kinds" s_is_kinds) (T : Tx mg) (G_is_listed : Has P w K mg base 1 "is_listed" ["value", "most"] sp_is_listed) (G_is_kind : Has P w K mg base 1 "is_kind" ["value"] sp_is_kind) : Has P w K mg base 2 "is_kinds" ["value"] sp_is_kinds := by
  refine has_of D sc_is_kinds (fun _ _ _ _ _ _ us hl => match us, hl with | [_], _ => rfl) (fun vs H Q E h => ?_) (fun f cdv A outer s H vs Q E hr h => ?_)
  · obtain ⟨v, r, rfl, _⟩ := h
    rfl
  · obtain ⟨a, ks, rfl, hx, ⟨l0, l1, okk, asc⟩, q⟩ := h
    refine ⟨_, (pss_cons (ps_if (PW.pt (pw_or (pt_not (pt_val (pe_callH G_is_listed (hr.mono (by omega)) (by rfl) (pa_cons (pv 0) (pa_cons (pe_glI T.c_MAX_KINDS (by rfl)) pa_nil))))) (pw_or (pt_cmpR op_eq (pe_callB call_len_seq (by rfl) T.n_len (by decide +kernel) (pa_cons (pv 0) pa_nil)) pe_int (nomark _)) (pw_or1 (pt_not (pt_val (pe_callB (cr_all rfl) (by rfl) T.n_all (by decide +kernel) (pa_cons (pe_lc (own := [("kind", 1)]) rfl sc_is_kinds.nd (pi_seqV 0) (blkOk_by (N := ["value", "kind", "following"]) (sc := defScope s_is_kinds) (by decide +kernel)) (fun _ _ _ _ _ => (pg_name (i := 1) sc_is_kinds.nd rfl (by first | exact Or.inl rfl | exact Or.inr rfl))) (fun _ _ _ _ _ => pts_nil) (fun _ _ _ _ _ => (pe_callH G_is_kind (hr.mono (by omega)) (by rfl) (pa_cons (pv 1) pa_nil)))) pa_nil)))))))) (pss_one (ps_ret pe_bl)) pss_nil)
    (pss_one (ps_ret (pe_callB (cr_all rfl) (by rfl) T.n_all (by decide +kernel) (pa_cons (pe_lc (own := [("kind", 1), ("following", 2)]) rfl sc_is_kinds.nd (pi_zip1 (i := 0) (RZ.pi_zipA (by rfl) T.n_zip (pa_cons (pv 0) (pa_cons (pe_slice (SlR.or sl_list sl_tupA) (pv 0) (po_some pe_int) po_none) pa_nil))) (fun _ _ _ q => ⟨1, rfl, q⟩) (fun _ _ _ q => q)) (blkOk_by (N := ["value", "kind", "following"]) (sc := defScope s_is_kinds) (by decide +kernel)) (fun _ _ _ _ _ => (pg_tupK (K := K) (n := 2) rfl rfl (pgs_cons (pg_name (i := 1) sc_is_kinds.nd rfl (by first | exact Or.inl rfl | exact Or.inr rfl)) (pgs_cons (pg_name (i := 2) sc_is_kinds.nd rfl (by first | exact Or.inl rfl | exact Or.inr rfl)) pgs_nil)))) (fun _ _ _ _ _ => pts_nil) (fun _ _ _ _ _ => (pe_cmpR op_lt_str (pv 1) (pv 2) (nomark _)))) pa_nil))))), ?_⟩
    refine ⟨_, rfl, a, _, 12, rfl, hx, fun H1 s1 => ⟨_, rfl, iteN ?_ ?_⟩⟩
    · show (!decide (((ks.map V.str).length : Int) ≤ 12)) = false
      rw [List.length_map, decide_eq_true (by omega)]
      rfl
    refine ⟨_, rfl, a, _, rfl, (hx.same s1).elim (fun z => .inl (.of z)) (fun z => .inr (.of z)), rfl, _, rfl, iteN ?_ ?_⟩
    · refine decide_eq_false fun z => ?_
      have z := V.int.inj z
      rw [List.length_map] at z
      omega
    refine ⟨a, _, rfl, hx.same s1, fun J wk L nL => lc_wk wk (fun i H' => Same H1 H' ∧ H' L = some (.lst ((List.replicate i true).map V.bl))) (fun _ _ p => p.1) ⟨same_upd nL, upd_same⟩ (fun i x H2 ex p => ?_) (fun H2 p => ?_)⟩
    · obtain ⟨sm, hL⟩ := p
      obtain ⟨k, ek, rfl⟩ := str_at ex
      have hi : i < ks.length := (List.getElem?_eq_some_iff.mp ek).1
      refine ⟨rfl, yesT ⟨_, rfl, k, rfl, okk k (List.mem_of_getElem? ek), fun H3 s3 => ⟨_, s3 _ _ hL, ?_, same_grow nL (sm.trans s3), ?_⟩⟩⟩
      · simp only [List.length_map, List.length_replicate]
        exact small (by omega)
      · rw [upd_same, List.replicate_succ', List.map_append]
        rfl
    · refine ⟨L, _, rfl, .of p.2, _, rfl, iteN ?_ ?_⟩
      · rw [all_rep]
        rfl
      have s2 : Same H H2 := s1.trans p.1
      refine ⟨a, _, rfl, hx.same s2, fun J Hc sc wk M nM => ?_⟩
      have sA : Same H Hc := s2.trans sc
      refine lc_gen (n := (ks.map V.str).length - 1) (fun i H' => Same Hc H' ∧ H' M = some (.lst ((List.replicate i true).map V.bl))) ⟨same_upd nM, upd_same⟩ (fun i H' hi p => wk.go i H' p.1 (by omega)) (fun H' p => wk.stop H' p.1) (fun i x H3 H4 hi p y => ?_) (fun H' p => ?_)
      · obtain ⟨T', x1, x2, rfl, nT, rfl, g1, g2⟩ := wk.yld i x H3 H4 p.1 y
        obtain ⟨sm, hM⟩ := p
        have g2 := g2 (by omega)
        obtain ⟨k1, e1, rfl⟩ := str_at g1
        obtain ⟨k2, e2, rfl⟩ := str_at g2
        have hi2 : i < ks.length := (List.getElem?_eq_some_iff.mp e1).1
        refine ⟨T', _, rfl, .of upd_same, rfl, _, _, rfl, _, _, rfl, rfl, rfl, yesT ?_⟩
        refine ⟨_, rfl, _, rfl, _, _, rfl, rfl, _, same_upd nT _ _ hM, ?_, same_grow nM (sm.trans (same_upd nT)), ?_⟩
        · simp only [List.length_map, List.length_replicate]
          exact small (by omega)
        · rw [upd_same, List.replicate_succ', List.map_append, decide_eq_true (asc i k1 k2 e1 e2)]
          rfl
      · refine ⟨M, _, rfl, .of p.2, ?_⟩
        rw [all_rep]
        exact q _ (sA.trans p.1)
end
end UP

set_option Elab.async false
set_option linter.all false
set_option maxRecDepth 100000
set_option maxHeartbeats 4000000
namespace UP
open PySem PySem.Spec PyProof.Rows L2
theorem empty_iff {l : List Str} : l.isEmpty = true ↔ l = [] := by
  cases l <;> simp
section
variable {P : Program} {w : World} {K : PySem.W.Frag} {mg : Str → Option Value} {base : Heap}
/-! check_kinds: slots 0:kinds -/
abbrev s_check_kinds : Stmt := topS 39
theorem sc_check_kinds : FnScope ["kinds"] ["kinds"] (defScope s_check_kinds) := ⟨rfl, rfl, rfl, by decide +kernel, rfl, by decide +kernel, by decide +kernel⟩
def sp_check_kinds : Sp := fun vs H Q _ => ∃ (a : Addr) (ks : List Str), vs = [.ref a] ∧ Sq2 H a (ks.map V.str) ∧ KsOk ks ∧ ∀ H', Same H H' → Q .non H'
theorem ok_check_kinds (D : Df K mg "check_kinds" s_check_kinds) (G_is_kinds : Has P w K mg base 2 "is_kinds" ["value"] sp_is_kinds) : Has P w K mg base 3 "check_kinds" ["kinds"] sp_check_kinds := by
  refine has_of D sc_check_kinds (fun _ _ _ _ _ _ us hl => match us, hl with | [_], _ => rfl) (fun vs H Q E h => ?_) (fun f cdv A outer s H vs Q E hr h => ?_)
  · obtain ⟨v, r, rfl, _⟩ := h
    rfl
  · obtain ⟨a, ks, rfl, hx, ok, q⟩ := h
    refine ⟨_, (pss_one (ps_if (pt_not (pt_val (pe_callH G_is_kinds (hr.mono (by omega)) (by rfl) (pa_cons (pv 0) pa_nil)))) (pss_one ps_never) pss_nil)), ?_⟩
    exact ⟨_, rfl, a, ks, rfl, hx, ok, fun H1 s1 => ⟨_, rfl, iteF (q _ s1)⟩⟩
end
end UP

set_option Elab.async false
set_option linter.all false
set_option maxRecDepth 100000
set_option maxHeartbeats 4000000
namespace UP
open PySem PySem.Spec PyProof.Rows L2
theorem canM_dec (ks : List Str) (a b : Option Run) : CanM ks a b ∨ ¬ CanM ks a b := Classical.em _
open Classical in
noncomputable def dueR (ks : List Str) (a b : Option Run) : Option Int := if a = b then some 0 else if CanM ks a b then some (mxR a b) else none
theorem due_comm (ks : List Str) (a b : Option Run) : dueR ks a b = dueR ks b a := by
  unfold dueR
  by_cases e : a = b
  · rw [if_pos e, if_pos e.symm]
  · rw [if_neg e, if_neg (show ¬ b = a from fun z => e z.symm)]
    by_cases c : CanM ks a b
    · rw [if_pos c, if_pos (can_comm c), mx_comm]
    · rw [if_neg c, if_neg fun z => c (can_comm z)]
theorem due_can {ks : List Str} {a b : Option Run} (e : a ≠ b) (c : CanM ks a b) : dueR ks a b = some (mxR a b) := by
  unfold dueR
  rw [if_neg e, if_pos c]
theorem due_not {ks : List Str} {a b : Option Run} (e : a ≠ b) (c : ¬ CanM ks a b) : dueR ks a b = none := by
  unfold dueR
  rw [if_neg e, if_neg c]
theorem due_eq {ks : List Str} {a : Option Run} : dueR ks a a = some 0 := by
  unfold dueR
  rw [if_pos rfl]
theorem dist_par {a b : Option Run} : distR a b % 2 = 1 ↔ (numR a - numR b) % 2 = 1 := by
  unfold distR
  split
  · split <;> omega
  · omega
section
variable {P : Program} {w : World} {K : PySem.W.Frag} {mg : Str → Option Value} {base : Heap}
end
end UP

set_option Elab.async false
set_option linter.all false
set_option maxRecDepth 100000
set_option maxHeartbeats 4000000
set_option pp.maxSteps 300
namespace UP
open PySem PySem.Spec PyProof.Rows L2
/-! ### xs.count(y) of texts -/
def eqs (k : Str) (v : Value) : Bool := match v with
  | .str z _ => z == k
  | _ => false
def rCntS (K : PySem.W.Frag) : V → List V → Hp → VK → Prop := fun x xs H Q => ∃ (p : Addr) (ns : List Str) (k : Str), x = .ref p ∧ xs = [.str k] ∧ SqL K H p (ns.map V.str) ∧ Q (.int (ns.count k : Nat)) H
theorem strs_vals : ∀ {ns : List Str} {us : List Value}, Vals (ns.map V.str) us → (∀ y ∈ us, ∃ z t, y = .str z t) ∧ ∀ k, us.countP (eqs k) = ns.count k
  | [], _, .nil => ⟨fun y h => (by cases h), fun k => rfl⟩
  | z :: t, _, .cons ⟨tk, e⟩ r => by
    obtain ⟨h1, h2⟩ := strs_vals r
    subst e
    refine ⟨fun y hy => ?_, fun k => ?_⟩
    · rcases List.mem_cons.mp hy with e | e
      · exact ⟨z, tk, e⟩
      · exact h1 y e
    · rw [List.countP_cons, h2 k, List.count_cons]
      rfl
theorem mt_lcountS {X : Cx} : MtR X "list.count" (rCntS X.K) := by
  intro pins s σ H x xs v us Q I rx rxs h
  obtain ⟨p, ns, k, rfl, rfl, hs, q⟩ := h
  cases rx
  obtain ⟨u, rfl, ru⟩ := rxs.one
  obtain ⟨t, rfl⟩ := ru
  obtain ⟨its, rv, ⟨⟨cls, dd, data, sl⟩, n, ho, hc, hdn, hd⟩, hlen⟩ := I.list hs
  simp only at hc hd
  subst hc hd
  obtain ⟨h1, h2⟩ := strs_vals rv
  refine call_meets PySem.F.slot_list_count ⟨_, ho, rfl⟩ PySem.F.entry_list_count (PySem.F.args_list_count_2 _ _)
    (SeqAt.list_countAt p its.toArray n dd sl (.str k t) (eqs k)) ⟨ho, fun y hy => ?_, ?_⟩
  · obtain ⟨z, tz, rfl⟩ := h1 y (by simpa using hy)
    exact SeqAt.EqAt.str_str z tz k t
  have ec : its.toArray.toList.countP (eqs k) = ns.count k := h2 k
  refine ⟨.int (ns.count k : Nat), H, I.tok _, ⟨s.toks, ?_⟩, q⟩
  show Value.int ((its.toArray.toList.countP (eqs k) : Nat) : Int) s.toks = Value.int ((ns.count k : Nat) : Int) s.toks
  rw [ec]
/-! ### effects -/
def fxR (items : List Str) (k : Str) (n : Int) : Option Run := stI items (withR k n)
def chR (items : List Str) (k : Str) : Int := (items.map fun x => if x = k then (1 : Int) else -1).sum
theorem chR_snoc (l : List Str) (x k : Str) : chR (l ++ [x]) k = chR l k + if x = k then 1 else -1 := by
  unfold chR
  rw [List.map_append, List.sum_append]
  simp
theorem chR_cons (l : List Str) (x k : Str) : chR (x :: l) k = (if x = k then 1 else -1) + chR l k := by
  unfold chR
  rw [List.map_cons, List.sum_cons]
theorem chR_cnt (k : Str) : ∀ l : List Str, chR l k = 2 * ((l.count k : Nat) : Int) - (l.length : Int)
  | [] => rfl
  | x :: t => by
    rw [chR_cons, chR_cnt k t, List.count_cons, List.length_cons]
    by_cases e : x = k
    · rw [if_pos e, if_pos (by rw [e]; exact beq_self_eq_true k)]
      omega
    · rw [if_neg e, if_neg (fun z => e (eq_of_beq z))]
      omega
theorem with0 (k : Str) : withR k 0 = none := if_pos rfl
theorem with_pos {k : Str} {n : Int} (h : 0 < n) : withR k n = some (k, n) := if_neg (by omega)
/-- one arrival while none or items of a kind wait -/
theorem step_with {k x : Str} {n : Int} (h : 0 ≤ n) (z : n = 0 → x = k) : stepR (withR k n) x 1 = withR k (n + if x = k then 1 else -1) := by
  by_cases n0 : n = 0
  · have e := z n0
    subst n0
    rw [with0, if_pos e, e]
    rfl
  · rw [with_pos (by omega)]
    by_cases e : x = k
    · rw [step_same (r := (k, n)) e.symm, if_pos e, with_pos (by omega), e]
    · rw [step_other (r := (k, n)) (fun q => e q.symm), if_neg e]
      by_cases h1 : 0 < n - 1
      · rw [if_pos (show 0 < (k, n).2 - 1 from h1), with_pos (by omega)]
        rfl
      · rw [if_neg (show ¬ 0 < (k, n).2 - 1 from h1), if_pos (show (k, n).2 - 1 = 0 by show n - 1 = 0; omega), show n + -1 = 0 by omega, with0]
theorem fx_far (k : Str) : ∀ (l : List Str) (n : Int), (l.length : Int) ≤ n → stI l (withR k n) = withR k (n + chR l k)
  | [], n, _ => by
    show withR k n = withR k (n + 0)
    rw [Int.add_zero]
  | x :: t, n, h => by
    rw [List.length_cons] at h
    have n1 : 1 ≤ n := by omega
    show stI t (stepR (withR k n) x 1) = _
    rw [step_with (by omega) (fun z => by omega), fx_far k t _ (by split <;> omega), chR_cons, Int.add_assoc]
theorem stI_drop {l : List Str} {i : Nat} {x : Str} (h : l[i]? = some x) (s : Option Run) : stI (l.drop i) s = stI (l.drop (i + 1)) (stepR s x 1) := by
  obtain ⟨hi, e⟩ := List.getElem?_eq_some_iff.mp h
  rw [List.drop_eq_getElem_cons hi, e]
  rfl
theorem stI_split (l : List Str) (i : Nat) (s : Option Run) : stI l s = stI (l.drop i) (stI (l.take i) s) := by
  rw [← stI_app, List.take_append_drop]
theorem stI_pos : ∀ (l : List Str) (s : Option Run), PosO s → PosO (stI l s)
  | [], _, h => h
  | x :: t, s, h => stI_pos t _ (stepR_pos h (by decide))
theorem stOk_stI : ∀ (l : List Str) (s : Option Run), (∀ k ∈ l, KindOk k) → StOk s → StOk (stI l s)
  | [], _, _, h => h
  | x :: t, s, k, h => stOk_stI t _ (fun y hy => k y (List.mem_cons_of_mem _ hy)) (stOk_step h (k x (List.mem_cons_self ..)))
theorem pos_with {k : Str} {n : Int} (h : 0 ≤ n) : PosO (withR k n) := fun r e => by
  unfold withR at e
  split at e
  · cases e
  · cases e
    show 1 ≤ n
    omega
theorem ok_with {k : Str} {n : Int} (kk : KindOk k) (h : 0 ≤ n) : StOk (withR k n) := fun r e => by
  unfold withR at e
  split at e
  · cases e
  · cases e
    exact ⟨kk, by show 1 ≤ n; omega⟩
/-- while effects are listed: L of them are known, all others are shifts so far -/
structure Low (items : List Str) (k : Str) (i L : Nat) : Prop where
  pos : 1 ≤ L
  le : L ≤ i + 1
  far : ∀ n : Int, (L : Int) ≤ n → 0 < n + chR (items.take i) k ∧ stI (items.take i) (withR k n) = withR k (n + chR (items.take i) k)
theorem Low.start (items : List Str) (k : Str) : Low items k 0 1 := ⟨Nat.le_refl _, Nat.le_refl _, fun n h => by
  rw [List.take_zero]
  show 0 < n + 0 ∧ withR k n = withR k (n + 0)
  rw [Int.add_zero]
  exact ⟨by omega, rfl⟩⟩
theorem take_step {items : List Str} {i : Nat} {x : Str} (h : items[i]? = some x) (s : Option Run) : stI (items.take (i + 1)) s = stepR (stI (items.take i) s) x 1 := by
  rw [take_snoc h, stI_app]
  rfl
theorem Low.stay {items : List Str} {k : Str} {i L : Nat} {x : Str} (h : Low items k i L) (hx : items[i]? = some x) (ne : chR (items.take (i + 1)) k ≠ -(L : Int)) : Low items k (i + 1) L := by
  have f := (h.far L (Int.le_refl _)).1
  have e : chR (items.take (i + 1)) k = chR (items.take i) k + if x = k then 1 else -1 := by rw [take_snoc hx, chR_snoc]
  rw [e] at ne
  refine ⟨h.pos, by have := h.le; omega, fun n hn => ?_⟩
  obtain ⟨f1, f2⟩ := h.far n hn
  rw [e, take_step hx, f2, step_with (by omega) (fun z => by omega), Int.add_assoc]
  refine ⟨?_, rfl⟩
  split at ne <;> split <;> first | omega | contradiction
theorem Low.more {items : List Str} {k : Str} {i L : Nat} {x : Str} (h : Low items k i L) (hx : items[i]? = some x) (eq : chR (items.take (i + 1)) k = -(L : Int)) : Low items k (i + 1) (L + 1) ∧ fxR items k L = stI (items.drop (i + 1)) none := by
  have e : chR (items.take (i + 1)) k = chR (items.take i) k + if x = k then 1 else -1 := by rw [take_snoc hx, chR_snoc]
  have e2 := e
  rw [eq] at e2
  refine ⟨⟨by omega, by have := h.le; omega, fun n hn => ?_⟩, ?_⟩
  · obtain ⟨f1, f2⟩ := h.far n (by omega)
    rw [e, take_step hx, f2, step_with (by omega) (fun z => by omega), Int.add_assoc]
    exact ⟨by omega, rfl⟩
  · obtain ⟨f1, f2⟩ := h.far L (Int.le_refl _)
    unfold fxR
    rw [stI_split items (i + 1), take_step hx, f2, step_with (by omega) (fun z => by omega), show (L : Int) + chR (items.take i) k + (if x = k then 1 else -1) = 0 by omega, with0]
/-- the list of effects is right -/
structure EffOk (items : List Str) (k : Str) (es : List (Option Run)) : Prop where
  len : 1 ≤ es.length ∧ es.length ≤ items.length + 1
  val : ∀ n, n < es.length → es[n]? = some (fxR items k n)
  far : ∃ sh : Int, ∀ n : Int, (es.length : Int) - 1 ≤ n → 0 ≤ n + sh ∧ fxR items k n = withR k (n + sh)
end UP

set_option Elab.async false
set_option linter.all false
set_option maxRecDepth 100000
set_option maxHeartbeats 4000000
set_option pp.maxSteps 300
namespace UP
open PySem PySem.Spec PyProof.Rows L2
theorem atSE {K : PySem.W.Frag} {H : Hp} {t : Addr} {xs : List V} {i : Int} {x : V} {Q : VK} (h : Sq2 H t xs) (e : atI xs i = some x) (q : Q x H) : rIx K (.ref t) (.int i) H Q := h.elim (fun z => .inl ⟨t, _, i, _, rfl, rfl, .of z, e, q⟩) (fun z => .inr (.inl ⟨t, _, i, _, rfl, rfl, .of z, e, q⟩))
/-- a list of states -/
def StL (H : Hp) (a : Addr) (es : List (Option Run)) : Prop := ∃ xs, H a = some (.lst xs) ∧ Paired (StV H) xs es
theorem sts_same {H H' : Hp} {xs : List V} {es : List (Option Run)} (s : Same H H') (h : Paired (StV H) xs es) : Paired (StV H') xs es := Paired.imp (fun _ _ z => z.same s) h
theorem StV.growE {H : Hp} {D : Addr} {acc acc' : List V} {v : V} {st : Option Run} (hD : H D = some (.lst acc)) (h : StV H v st) : StV (upd H D (.lst acc')) v st := by
  cases st with
  | none => exact h
  | some r =>
    obtain ⟨t, e, ht⟩ := h
    refine ⟨t, e, ?_⟩
    rw [upd_ne (ne_of ht hD (by intro q; cases q))]
    exact ht
theorem StV.butE {H H' : Hp} {D : Addr} {acc : List V} {v : V} {st : Option Run} (hD : H D = some (.lst acc)) (b : But D H H') (h : StV H v st) : StV H' v st := by
  cases st with
  | none => exact h
  | some r =>
    obtain ⟨t, e, ht⟩ := h
    exact ⟨t, e, b _ _ (ne_of ht hD (by intro q; cases q)) ht⟩
theorem sts_grow {H : Hp} {D : Addr} {acc acc' : List V} {xs : List V} {es : List (Option Run)} (hD : H D = some (.lst acc)) (h : Paired (StV H) xs es) : Paired (StV (upd H D (.lst acc'))) xs es := Paired.imp (fun _ _ z => z.growE hD) h
theorem StL.same {H H' : Hp} {a : Addr} {es : List (Option Run)} (s : Same H H') (h : StL H a es) : StL H' a es := by
  obtain ⟨xs, hx, hp⟩ := h
  exact ⟨xs, s _ _ hx, sts_same s hp⟩
/-- the endings of the moments from s on stand in a list -/
def EndL (H : Hp) (xs : List V) (items : List Str) (s : Nat) : Prop := xs.length = items.length + 1 ∧ ∀ m, s ≤ m → m ≤ items.length → ∃ v, xs[m]? = some v ∧ StV H v (stI (items.drop m) none)
theorem g_at {i : Nat} {v w : V} {σ : L2.St} {H : Hp} {k : L2.St → Hp → Prop} (e : v = w) (h : gName i w σ H k) : gName i v σ H k := by
  subst e
  exact h
theorem ixE {n : Nat} {i : Int} (h0 : 0 ≤ i) (h1 : i < n) : ixN n i = some i.toNat := by
  unfold ixN
  rw [if_pos h0, if_pos (by omega)]
section
variable {P : Program} {w : World} {K : PySem.W.Frag} {mg : Str → Option Value} {base : Heap}
/-! waiting_number: slots 0:state -/
abbrev s_waiting_number : Stmt := topS 44
theorem sc_waiting_number : FnScope ["state"] ["state"] (defScope s_waiting_number) := ⟨rfl, rfl, rfl, by decide +kernel, rfl, by decide +kernel, by decide +kernel⟩
def sp_waiting_number : Sp := fun vs H Q _ => ∃ (v : V) (st : Option Run), vs = [v] ∧ StG H v st ∧ Q (.int (numR st)) H
theorem ok_waiting_number (D : Df K mg "waiting_number" s_waiting_number) : Has P w K mg base 1 "waiting_number" ["state"] sp_waiting_number := by
  refine has_of D sc_waiting_number (fun _ _ _ _ _ _ us hl => match us, hl with | [_], _ => rfl) (fun vs H Q E h => ?_) (fun f cdv A outer s₀ H vs Q E hr h => ?_)
  · obtain ⟨_, _, rfl, _⟩ := h
    rfl
  · obtain ⟨v, st, rfl, hv, q⟩ := h
    refine ⟨_, (pss_one (ps_ret (pe_ifExp (pt_cmpR op_isN (pv 0) pe_non (nomark _)) pe_int (pe_ix ix_seq (pv 0) pe_int (fun _ _ => rfl))))), ?_⟩
    cases st with
    | none =>
      cases hv
      exact ⟨_, rfl, rfl, _, rfl, iteP rfl q⟩
    | some r =>
      obtain ⟨t, rfl, ht⟩ := hv
      exact ⟨_, rfl, rfl, _, rfl, iteN rfl ⟨_, rfl, atSE ht rfl q⟩⟩
/-! check_kind: slots 0:kind -/
abbrev s_check_kind : Stmt := topS 38
theorem sc_check_kind : FnScope ["kind"] ["kind"] (defScope s_check_kind) := ⟨rfl, rfl, rfl, by decide +kernel, rfl, by decide +kernel, by decide +kernel⟩
def sp_check_kind : Sp := fun vs H Q _ => ∃ k : Str, vs = [.str k] ∧ KindOk k ∧ ∀ H', Same H H' → Q .non H'
theorem ok_check_kind (D : Df K mg "check_kind" s_check_kind) (G_is_kind : Has P w K mg base 1 "is_kind" ["value"] sp_is_kind) : Has P w K mg base 2 "check_kind" ["kind"] sp_check_kind := by
  refine has_of D sc_check_kind (fun _ _ _ _ _ _ us hl => match us, hl with | [_], _ => rfl) (fun vs H Q E h => ?_) (fun f cdv A outer s H vs Q E hr h => ?_)
  · obtain ⟨v, rfl, _⟩ := h
    rfl
  · obtain ⟨k, rfl, ok, q⟩ := h
    refine ⟨_, (pss_one (ps_if (pt_not (pt_val (pe_callH G_is_kind (hr.mono (by omega)) (by rfl) (pa_cons (pv 0) pa_nil)))) (pss_one ps_never) pss_nil)), ?_⟩
    exact ⟨_, rfl, k, rfl, ok, fun H1 s1 => ⟨_, rfl, iteF (q _ s1)⟩⟩
/-! ending_from: slots 0:items 1:start 2:endings 3:kind 4:number 5:moment -/
abbrev s_ending_from : Stmt := topS 49
theorem sc_ending_from : FnScope ["items", "start", "endings", "kind", "number", "moment"] ["items", "start", "endings"] (defScope s_ending_from) := ⟨rfl, rfl, rfl, by decide +kernel, rfl, by decide +kernel, by decide +kernel⟩
def sp_ending_from : Sp := fun vs H Q _ => ∃ (a e : Addr) (items : List Str) (s : Nat) (xs : List V), vs = [.ref a, .int s, .ref e] ∧ H a = some (.lst (items.map V.str)) ∧ H e = some (.lst xs) ∧ EndL H xs items (s + 1) ∧ s < items.length ∧ items.length ≤ 400 ∧ ∀ H' v, Same H H' → StV H' v (stI (items.drop s) none) → Q v H'
theorem ok_ending_from (D : Df K mg "ending_from" s_ending_from) (T : Tx mg) : Has P w K mg base 1 "ending_from" ["items", "start", "endings"] sp_ending_from := by
  refine has_of D sc_ending_from (fun _ _ _ _ _ _ us hl => match us, hl with | [_, _, _], _ => rfl) (fun vs H Q E h => ?_) (fun f cdv A outer s₀ H vs Q E hr h => ?_)
  · obtain ⟨_, _, _, _, _, rfl, _⟩ := h
    rfl
  · obtain ⟨a, e, items, s, xs, rfl, ha, he, ⟨lx, hE⟩, ls, l4, q⟩ := h
    obtain ⟨k, hk⟩ : ∃ k, items[s]? = some k := ⟨_, List.getElem?_eq_getElem ls⟩
    have at' : ∀ (i : Nat) (x : Str), items[i]? = some x → atI (items.map V.str) (i : Int) = some (.str x) := fun i x h => atI_ofR (by omega) (by rw [Int.toNat_natCast, List.getElem?_map, h]; rfl)
    refine ⟨_, (pss_cons (ps_set (i := 3) sc_ending_from.nd rfl (by first | exact Or.inl rfl | exact Or.inr rfl) (pe_ix ix_list (pv 0) (pv 1) (fun _ _ => rfl)))
    (pss_cons (ps_set (i := 4) sc_ending_from.nd rfl (by first | exact Or.inl rfl | exact Or.inr rfl) pe_int)
    (pss_cons (ps_for PassesOwn.never rfl (pi_range2 (by rfl) T.n_range (pa_cons (pv 1) (pa_cons (pe_callB call_len_seq (by rfl) T.n_len (by decide +kernel) (pa_cons (pv 0) pa_nil)) pa_nil))) (pg_name (i := 5) sc_ending_from.nd rfl (by first | exact Or.inl rfl | exact Or.inr rfl))
      (pss_cons (ps_aug (i := 4) sc_ending_from.nd rfl (by first | exact Or.inl rfl | exact Or.inr rfl) (pe_ifExp (pt_cmpR op_eq (pe_ix ix_list (pv 0) (pv 5) (fun _ _ => rfl)) (pv 3) (nomark _)) pe_int (pe_un un_neg pe_int)) ip_add)
    (pss_one (ps_if (pt_cmpR op_eq (pv 4) pe_int (nomark _)) (pss_one (ps_ret (pe_ix ix_list (pv 2) (pe_op op_add (pv 5) pe_int) (fun _ _ => rfl)))) pss_nil))))
    (pss_one (ps_ret (pe_tup (pa_cons (pv 3) (pa_cons (pv 4) pa_nil)))))))), ?_⟩
    refine ⟨_, rfl, _, rfl, a, _, (s : Int), _, rfl, rfl, .of ha, at' s k hk, ?_⟩
    have lm : (items.map V.str).length = items.length := List.length_map ..
    refine ⟨_, rfl, _, rfl, a, _, rfl, .inl (.of ha), (s : Int), ((items.map V.str).length : Int), rfl, ⟨by omega, by omega, by omega, by omega⟩, for_range (lo := (s : Int)) (n := _) (fun i σ H' => ∃ (n : Int) (y5 : Option V), σ = [some (.ref a), some (.int s), some (.ref e), some (.str k), some (.int n), y5] ∧ H' = H ∧ 0 ≤ n ∧ (n = 0 ↔ i = 0) ∧ s + i ≤ items.length ∧ stI (items.drop s) none = stI (items.drop (s + i)) (withR k n))
      ⟨0, none, rfl, rfl, Int.le_refl _, ⟨fun _ => rfl, fun _ => rfl⟩, by omega, by rw [with0]; rfl⟩ (fun i σ H2 hi hP => ?_) (fun σ H2 hP => ?_)⟩
    · obtain ⟨n, y5, rfl, rfl, n0, ni, sl, eq⟩ := hP
      have hi : i < ((items.map V.str).length - (s : Int)).toNat := hi
      have li : s + i < items.length := by omega
      obtain ⟨x, hx⟩ : ∃ x, items[s + i]? = some x := ⟨_, List.getElem?_eq_getElem li⟩
      have ex : atI (items.map V.str) ((s : Int) + (i : Int)) = some (.str x) := by
        have := at' (s + i) x hx
        rw [show ((s + i : Nat) : Int) = (s : Int) + (i : Int) by omega] at this
        exact this
      have xk : n = 0 → x = k := fun z => by
        rw [ni.mp z, Nat.add_zero, hk] at hx
        exact (Option.some.inj hx).symm
      have st : stI (items.drop s) none = stI (items.drop (s + i + 1)) (withR k (n + if x = k then 1 else -1)) := by
        rw [eq, stI_drop hx, step_with n0 xk]
      refine ⟨_, rfl, _, rfl, _, rfl, a, _, _, _, rfl, rfl, .of ha, ex, _, rfl, rfl, _, rfl, ?_⟩
      obtain ⟨c, ec⟩ : ∃ c : Int, c = n + (if x = k then 1 else -1) := ⟨_, rfl⟩
      rw [← ec] at st
      have cc : 0 ≤ c := by
        rw [ec]
        split
        · omega
        · rename_i z
          have : n ≠ 0 := fun q => z (xk q)
          omega
      have hEnd := hE (s + i + 1) (by omega) (by omega)
      obtain ⟨vE, hvE, hsE⟩ := hEnd
      have exE : atI xs ((s : Int) + (i : Int) + 1) = some vE := atI_ofR (by omega) (by rw [show ((s : Int) + (i : Int) + 1).toNat = s + i + 1 by omega]; exact hvE)
      refine ite2 (fun e1 => ?_) (fun e1 => ?_)
      · have e1 : x = k := V.str.inj (of_decide_eq_true e1)
        rw [if_pos e1] at ec
        refine ⟨_, _, rfl, rfl, _, rfl, rfl, _, rfl, iteN (decide_eq_false (fun z => ?_)) ⟨c, some (.int ((s : Int) + (i : Int))), ?_, rfl, cc, ⟨fun z => ?_, fun z => by omega⟩, by omega, st⟩⟩
        · have : n + 1 = 0 := V.int.inj z
          omega
        · rw [ec]
          rfl
        · omega
      · have e1 : ¬ x = k := fun z => e1 (decide_eq_true (by rw [z]))
        rw [if_neg e1] at ec
        refine ⟨_, rfl, _, _, rfl, rfl, _, rfl, rfl, _, rfl, ite2 (fun e2 => ?_) (fun e2 => ?_)⟩
        · have e2 : n + -1 = 0 := V.int.inj (of_decide_eq_true e2)
          refine ⟨_, rfl, _, rfl, _, _, rfl, rfl, e, _, _, _, rfl, rfl, .of he, exE, q _ _ (Same.refl _) ?_⟩
          rw [st, show c = 0 by omega, with0]
          exact hsE
        · have e2 : ¬ n + -1 = 0 := fun z => e2 (decide_eq_true (by show V.int (n + -1) = V.int 0; rw [z]))
          refine ⟨c, some (.int ((s : Int) + (i : Int))), ?_, rfl, cc, ⟨fun z => by omega, fun z => by omega⟩, by omega, st⟩
          rw [ec]
          rfl
    · obtain ⟨n, y5, rfl, rfl, n0, ni, sl, eq⟩ := hP
      have en : s + ((items.map V.str).length - (s : Int)).toNat = items.length := by omega
      rw [en, List.drop_length] at eq
      refine ⟨_, rfl, _, rfl, (by show 2 ≤ sizeLine; decide), fun t nt => q _ _ (same_upd nt) ?_⟩
      rw [eq]
      show StV _ _ (withR k n)
      rw [with_pos (by have := ni.mp; omega)]
      exact ⟨t, rfl, upd_same⟩
/-! endings_of: slots 0:items 1:endings 2:start -/
abbrev s_endings_of : Stmt := topS 50
theorem sc_endings_of : FnScope ["items", "endings", "start"] ["items"] (defScope s_endings_of) := ⟨rfl, rfl, rfl, by decide +kernel, rfl, by decide +kernel, by decide +kernel⟩
def sp_endings_of : Sp := fun vs H Q _ => ∃ (a : Addr) (items : List Str), vs = [.ref a] ∧ H a = some (.lst (items.map V.str)) ∧ items.length ≤ 400 ∧ ∀ H' e xs, Same H H' → H e = none → H' e = some (.lst xs) → EndL H' xs items 0 → Q (.ref e) H'
theorem ok_endings_of (D : Df K mg "endings_of" s_endings_of) (T : Tx mg) (G_ending_from : Has P w K mg base 1 "ending_from" ["items", "start", "endings"] sp_ending_from) : Has P w K mg base 2 "endings_of" ["items"] sp_endings_of := by
  refine has_of D sc_endings_of (fun _ _ _ _ _ _ us hl => match us, hl with | [_], _ => rfl) (fun vs H Q E h => ?_) (fun f cdv A outer s₀ H vs Q E hr h => ?_)
  · obtain ⟨_, _, rfl, _⟩ := h
    rfl
  · obtain ⟨a, items, rfl, ha, l4, q⟩ := h
    have lm : (items.map V.str).length = items.length := List.length_map ..
    refine ⟨_, (pss_cons (ps_set (i := 1) sc_endings_of.nd rfl (by first | exact Or.inl rfl | exact Or.inr rfl) (pe_op op_rep (pe_lst (pa_cons pe_non pa_nil)) (pe_op op_add (pe_callB call_len_seq (by rfl) T.n_len (by decide +kernel) (pa_cons (pv 0) pa_nil)) pe_int)))
    (pss_cons (ps_for PassesOwn.never rfl (pi_revR (by rfl) T.n_reversed (prg_1 (by rfl) T.n_range (pe_callB call_len_seq (by rfl) T.n_len (by decide +kernel) (pa_cons (pv 0) pa_nil)))) (pg_name (i := 2) sc_endings_of.nd rfl (by first | exact Or.inl rfl | exact Or.inr rfl))
      (pss_one (ps_asg (pe_callH G_ending_from (hr.mono (by omega)) (by rfl) (pa_cons (pv 0) (pa_cons (pv 2) (pa_cons (pv 1) pa_nil)))) (pg_sub (pv 1) (pv 2) set_list))))
    (pss_one (ps_ret (pv 1))))), ?_⟩
    refine ⟨(by show 1 ≤ sizeLine; decide), fun l1 n1 => ?_⟩
    have s1 := same_upd (o := .lst [.non]) n1
    refine ⟨_, rfl, a, _, rfl, .inl (.of (s1 _ _ ha)), _, _, rfl, rfl, l1, _, [.non], rfl, rfl, upd_same, (by omega), (by omega), smallE (by show 1 * (((items.map V.str).length : Int) + 1).toNat ≤ 1000000; omega), fun e ne => ?_⟩
    rw [flat_one]
    have en : (((items.map V.str).length : Int) + 1).toNat = items.length + 1 := by omega
    rw [en]
    have sA := s1.trans (same_upd (o := .lst (List.replicate (items.length + 1) .non)) ne)
    have neH : H e = none := s1.free ne
    have hE0 : (upd (upd H l1 (.lst [.non])) e (.lst (List.replicate (items.length + 1) .non))) e = some (.lst (List.replicate (items.length + 1) .non)) := upd_same
    generalize upd (upd H l1 (.lst [.non])) e (.lst (List.replicate (items.length + 1) .non)) = H2 at *
    refine ⟨_, rfl, a, _, rfl, .inl (.of (sA _ _ ha)), _, rfl, by decide, by decide, by omega, by omega, for_it walk_rangeC (fun i σ H' => ∃ y2 xs, σ = [some (.ref a), some (.ref e), y2] ∧ Same H H' ∧ H' e = some (.lst xs) ∧ EndL H' xs items (items.length - i))
      ⟨none, _, rfl, sA, hE0, ?_, fun m m1 m2 => ?_⟩ (fun _ _ _ _ _ => trivial) (fun i x σ Ha Hb hi hP hY => ?_) (fun σ H' hP => ?_)⟩
    · rw [List.length_replicate]
    · have : m = items.length := by omega
      subst this
      refine ⟨.non, ?_, ?_⟩
      · rw [List.getElem?_replicate, if_pos (by omega)]
      · rw [List.drop_length]
        rfl
    · obtain ⟨y2, xs, rfl, sm, hxs, hE⟩ := hP
      obtain ⟨rfl, rfl⟩ := hY
      have hi : i < (((items.map V.str).length : Int) - 0).toNat := hi
      have ei : (0 + (((((items.map V.str).length : Int) - 0).toNat : Nat) : Int) - 1 + (i : Nat) * (-1) : Int) = ((items.length - 1 - i : Nat) : Int) := by omega
      refine g_at (congrArg V.int ei) ?_
      obtain ⟨s, es⟩ : ∃ s : Nat, s = items.length - 1 - i := ⟨_, rfl⟩
      rw [← es]
      have e1 : items.length - i = s + 1 := by omega
      have e2 : items.length - (i + 1) = s := by omega
      rw [e1] at hE
      rw [e2]
      refine ⟨_, rfl, _, rfl, _, rfl, a, e, items, s, xs, rfl, sm _ _ ha, hxs, hE, by omega, l4, fun H3 v s3 hv => ?_⟩
      obtain ⟨lx, hEv⟩ := hE
      have hx3 := s3 _ _ hxs
      refine ⟨_, rfl, _, rfl, e, xs, (s : Int), s, rfl, rfl, hx3, ?_, ?_⟩
      · have := ixE (n := xs.length) (i := (s : Int)) (by omega) (by omega)
        rw [Int.toNat_natCast] at this
        exact this
      · refine ⟨_, xs.set s v, rfl, same_grow neH (sm.trans s3), upd_same, by rw [List.length_set]; exact lx, fun m m1 m2 => ?_⟩
        by_cases em : m = s
        · subst em
          exact ⟨v, by rw [List.getElem?_set_self (by omega)], hv.growE hx3⟩
        · obtain ⟨u, hu, hus⟩ := hEv m (by omega) m2
          exact ⟨u, by rw [List.getElem?_set_ne (fun z => em z.symm)]; exact hu, (hus.same s3).growE hx3⟩
    · obtain ⟨y2, xs, rfl, sm, hxs, hE⟩ := hP
      rw [show items.length - (((items.map V.str).length : Int) - 0).toNat = 0 by omega] at hE
      exact ⟨_, rfl, q _ e xs sm neH hxs hE⟩
/-! shift_of: slots 0:items 1:kind -/
abbrev s_shift_of : Stmt := topS 51
theorem sc_shift_of : FnScope ["items", "kind"] ["items", "kind"] (defScope s_shift_of) := ⟨rfl, rfl, rfl, by decide +kernel, rfl, by decide +kernel, by decide +kernel⟩
def sp_shift_of : Sp := fun vs H Q _ => ∃ (a : Addr) (items : List Str) (k : Str), vs = [.ref a, .str k] ∧ H a = some (.lst (items.map V.str)) ∧ Q (.int (chR items k)) H
theorem ok_shift_of (D : Df K mg "shift_of" s_shift_of) (T : Tx mg) : Has P w K mg base 1 "shift_of" ["items", "kind"] sp_shift_of := by
  refine has_of D sc_shift_of (fun _ _ _ _ _ _ us hl => match us, hl with | [_, _], _ => rfl) (fun vs H Q E h => ?_) (fun f cdv A outer s₀ H vs Q E hr h => ?_)
  · obtain ⟨_, _, _, rfl, _⟩ := h
    rfl
  · obtain ⟨a, items, k, rfl, ha, q⟩ := h
    refine ⟨_, (pss_one (ps_ret (pe_op op_sub (pe_op op_mul pe_int (pe_bm PySem.F.plainAttrs_list PySem.F.slot_list_count PySem.F.type_list_count mt_lcountS (pv 0) (pa_cons (pv 1) pa_nil))) (pe_callB call_len_seq (by rfl) T.n_len (by decide +kernel) (pa_cons (pv 0) pa_nil))))), ?_⟩
    rw [chR_cnt] at q
    refine ⟨_, rfl, .inl ⟨rfl, _, SqL.of ha⟩, _, rfl, a, items, k, rfl, rfl, .of ha, _, _, rfl, rfl, .inl ⟨by decide, by decide⟩, _, rfl, a, _, rfl, .inl (.of ha), _, _, rfl, rfl, ?_⟩
    rw [List.length_map]
    exact q
/-! effects_up_to: slots 0:items 1:endings 2:kind 3:most 4:effects 5:change 6:moment 7:item -/
abbrev s_effects_up_to : Stmt := topS 52
theorem sc_effects_up_to : FnScope ["items", "endings", "kind", "most", "effects", "change", "moment", "item"] ["items", "endings", "kind", "most"] (defScope s_effects_up_to) := ⟨rfl, rfl, rfl, by decide +kernel, rfl, by decide +kernel, by decide +kernel⟩
def sp_effects_up_to : Sp := fun vs H Q _ => ∃ (a e : Addr) (items : List Str) (k : Str) (M : Nat) (xs : List V), vs = [.ref a, .ref e, .str k, .int M] ∧ H a = some (.lst (items.map V.str)) ∧ H e = some (.lst xs) ∧ EndL H xs items 0 ∧ items.length ≤ M ∧ M ≤ 400 ∧
  ∀ H' p es, Same H H' → H p = none → StL H' p es → es.length = M + 1 → (∀ n : Nat, n < M + 1 → es[n]? = some (fxR items k n)) → Q (.ref p) H'
theorem ok_effects_up_to (D : Df K mg "effects_up_to" s_effects_up_to) (T : Tx mg) (G_state_with : Has P w K mg base 1 "state_with" ["kind", "number"] sp_state_with) : Has P w K mg base 2 "effects_up_to" ["items", "endings", "kind", "most"] sp_effects_up_to := by
  refine has_of D sc_effects_up_to (fun _ _ _ _ _ _ us hl => match us, hl with | [_, _, _, _], _ => rfl) (fun vs H Q E h => ?_) (fun f cdv A outer s₀ H vs Q E hr h => ?_)
  · obtain ⟨_, _, _, _, _, _, rfl, _⟩ := h
    rfl
  · obtain ⟨a, e, items, k, M, xs, rfl, ha, he, ⟨lx, hE⟩, lM, l4, q⟩ := h
    have lm : (items.map V.str).length = items.length := List.length_map ..
    obtain ⟨v0, hv0, hs0⟩ := hE 0 (Nat.le_refl _) (Nat.zero_le _)
    have atE : ∀ (i : Nat) (v : V), xs[i]? = some v → atI xs (i : Int) = some v := fun i v h => atI_ofR (by omega) (by rw [Int.toNat_natCast]; exact h)
    refine ⟨_, (pss_cons (ps_set (i := 4) sc_effects_up_to.nd rfl (by first | exact Or.inl rfl | exact Or.inr rfl) (pe_lst (pa_cons (pe_ix ix_list (pv 1) pe_int (fun _ _ => rfl)) pa_nil)))
    (pss_cons (ps_set (i := 5) sc_effects_up_to.nd rfl (by first | exact Or.inl rfl | exact Or.inr rfl) pe_int)
    (pss_cons (ps_for PassesOwn.never rfl (pi_enum (by rfl) T.n_enumerate (pa_cons (pv 0) pa_nil)) (pg_tup rfl (pgs_cons (pg_name (i := 6) sc_effects_up_to.nd rfl (by first | exact Or.inl rfl | exact Or.inr rfl)) (pgs_cons (pg_name (i := 7) sc_effects_up_to.nd rfl (by first | exact Or.inl rfl | exact Or.inr rfl)) pgs_nil)))
      (C8.pss_cut (ps_aug (i := 5) sc_effects_up_to.nd rfl (by first | exact Or.inl rfl | exact Or.inr rfl) (pe_ifExp (pt_cmpR op_eq (pv 7) (pv 2) (nomark _)) pe_int (pe_un un_neg pe_int)) ip_add)
    (pss_one (ps_if (pt_cmpR op_eq (pv 5) (pe_un un_neg (pe_callB call_len_seq (by rfl) T.n_len (by decide +kernel) (pa_cons (pv 4) pa_nil))) (nomark _)) (pss_one (ps_expr (pe_bm PySem.F.plainAttrs_list PySem.F.slot_list_append PySem.F.type_list_append mt_append (pv 4) (pa_cons (pe_ix ix_list (pv 1) (pe_op op_add (pv 6) pe_int) (fun _ _ => rfl)) pa_nil)))) pss_nil))))
    (pss_cons (ps_while PassesOwn.never (pt_cmpR op_le (pe_callB call_len_seq (by rfl) T.n_len (by decide +kernel) (pa_cons (pv 4) pa_nil)) (pv 3) (nomark _))
      (pss_one (ps_expr (pe_bm PySem.F.plainAttrs_list PySem.F.slot_list_append PySem.F.type_list_append mt_append (pv 4) (pa_cons (pe_callH G_state_with (hr.mono (by omega)) (by rfl) (pa_cons (pv 2) (pa_cons (pe_op op_add (pe_callB call_len_seq (by rfl) T.n_len (by decide +kernel) (pa_cons (pv 4) pa_nil)) (pv 5)) pa_nil))) pa_nil)))))
    (pss_one (ps_ret (pv 4))))))), ?_⟩
    refine ⟨_, rfl, e, _, 0, _, rfl, rfl, .of he, atE 0 v0 hv0, (by show 1 ≤ sizeLine; decide), fun p np => ?_⟩
    have s1 := same_upd (o := .lst [v0]) np
    have hp : StL (upd H p (.lst [v0])) p [fxR items k 0] := ⟨_, upd_same, .cons (by unfold fxR; rw [with0]; exact hs0.same s1) .nil⟩
    have ep : e ≠ p := ne_of_none he np
    have ap : a ≠ p := ne_of_none ha np
    have he1 := s1 _ _ he
    generalize upd H p (.lst [v0]) = H1 at *
    -- the items
    refine ⟨_, rfl, a, _, rfl, .of (s1 _ _ ha), for_it (walk_enum (xs := items.map V.str)) (fun i σ H' => ∃ y6 y7 es, σ = [some (.ref a), some (.ref e), some (.str k), some (.int M), some (.ref p), some (.int (chR (items.take i) k)), y6, y7] ∧ Same H H' ∧ StL H' p es ∧ Low items k i es.length ∧ ∀ n : Nat, n < es.length → es[n]? = some (fxR items k n))
      ⟨none, none, _, rfl, s1, hp, Low.start items k, fun n hn => ?_⟩ (fun i σ H' _ hP => ?_) (fun i x σ Ha Hb hi hP hY => ?_) (fun σ H' hP => ?_)⟩
    · have : n = 0 := by
        have : n < 1 := hn
        omega
      subst this
      rfl
    · obtain ⟨_, _, _, _, sm, _⟩ := hP
      exact .of (sm _ _ ha)
    · obtain ⟨y6, y7, es, rfl, sm, ⟨zs, hz, hpz⟩, low, val⟩ := hP
      obtain ⟨Tt, x1, x2, rfl, nT, rfl, g1, g2⟩ := hY
      cases g1
      have g2 : (items.map V.str)[i]? = some x2 := g2
      rw [List.getElem?_map] at g2
      cases ex : items[i]? with
      | none =>
        rw [ex] at g2
        cases g2
      | some x =>
        rw [ex] at g2
        cases g2
        have sT := same_upd (o := .tup [.int (i : Nat), .str x]) nT
        have li : i < items.length := (List.getElem?_eq_some_iff.mp ex).1
        have lz := Paired.len hpz
        have ch : chR (items.take (i + 1)) k = chR (items.take i) k + if x = k then 1 else -1 := by rw [take_snoc ex, chR_snoc]
        have hzT := sT _ _ hz
        have hpT := sts_same sT hpz
        have smT := sm.trans sT
        have heT := smT _ _ he
        have hTt : (upd Ha Tt (.tup [.int (i : Nat), .str x])) Tt = some (.tup [.int (i : Nat), .str x]) := upd_same
        generalize upd Ha Tt (.tup [.int (i : Nat), .str x]) = Hc at *
        obtain ⟨vE, hvE, hsE⟩ := hE (i + 1) (Nat.zero_le _) (by omega)
        have l4' := low.le
        have exE : atI xs ((i : Int) + 1) = some vE := by
          have := atE (i + 1) vE hvE
          rw [show ((i + 1 : Nat) : Int) = (i : Int) + 1 by omega] at this
          exact this
        refine ⟨Tt, _, rfl, .of hTt, rfl, _, _, rfl, _, _, rfl, rfl, ?_⟩
        refine ⟨fun σ' H' => σ' = [some (.ref a), some (.ref e), some (.str k), some (.int M), some (.ref p), some (.int (chR (items.take (i + 1)) k)), some (.int (i : Nat)), some (.str x)] ∧ H' = Hc, ?_, fun σ' Hd hM => ?_⟩
        · refine ⟨_, rfl, _, rfl, _, rfl, rfl, _, rfl, ite2 (fun e1 => ?_) (fun e1 => ?_)⟩
          · have e1 : x = k := V.str.inj (of_decide_eq_true e1)
            rw [if_pos e1] at ch
            refine ⟨_, _, rfl, rfl, ?_, rfl⟩
            rw [ch]
            rfl
          · have e1 : ¬ x = k := fun z => e1 (decide_eq_true (by rw [z]))
            rw [if_neg e1] at ch
            refine ⟨_, rfl, _, _, rfl, rfl, ?_, rfl⟩
            rw [ch]
            rfl
        obtain ⟨rfl, rfl⟩ := hM
        refine ⟨_, rfl, _, rfl, p, _, rfl, .inl (.of hzT), _, rfl, rfl, _, rfl, ite2 (fun e1 => ?_) (fun e1 => ?_)⟩
        · have e1 : chR (items.take (i + 1)) k = -(zs.length : Int) := V.int.inj (of_decide_eq_true e1)
          rw [lz] at e1
          obtain ⟨low2, fx⟩ := low.more ex e1
          refine ⟨_, rfl, .inl ⟨rfl, _, SqL.of hzT⟩, _, rfl, _, rfl, _, _, rfl, rfl, e, _, _, _, rfl, rfl, .of heT, exE, p, _, _, rfl, rfl, hzT, small (by omega), ?_⟩
          refine ⟨_, _, es ++ [fxR items k es.length], rfl, same_grow np smT, ⟨_, upd_same, Paired.app (sts_grow hzT hpT) (.cons ?_ .nil)⟩, ?_, fun n hn => ?_⟩
          · rw [fx]
            exact (hsE.same smT).growE hzT
          · rw [List.length_append]
            exact low2
          · rw [List.length_append] at hn
            have hn : n < es.length + 1 := hn
            by_cases en : n < es.length
            · rw [List.getElem?_append_left en]
              exact val n en
            · have : n = es.length := by omega
              subst this
              rw [List.getElem?_append_right (Nat.le_refl _), Nat.sub_self]
              rfl
        · have e1 : ¬ chR (items.take (i + 1)) k = -(es.length : Int) := fun z => e1 (decide_eq_true (by rw [z, ← lz]))
          exact ⟨_, _, es, rfl, smT, ⟨zs, hzT, hpT⟩, low.stay ex e1, val⟩
    · obtain ⟨y6, y7, es, rfl, sm, hz, low, val⟩ := hP
      rw [lm, List.take_length] at *
      obtain ⟨L0, eL0⟩ : ∃ L0, L0 = es.length := ⟨_, rfl⟩
      rw [← eL0] at low
      refine ⟨fun m σ H' => ∃ es, σ = [some (.ref a), some (.ref e), some (.str k), some (.int M), some (.ref p), some (.int (chR items k)), y6, y7] ∧ m = M + 1 - es.length ∧ Same H H' ∧ StL H' p es ∧ L0 ≤ es.length ∧ es.length ≤ M + 1 ∧ ∀ n : Nat, n < es.length → es[n]? = some (fxR items k n), ⟨_, es, rfl, rfl, sm, hz, by omega, by have := low.le; omega, val⟩, fun m σ H4 hP => ?_⟩
      clear sm hz val eL0
      obtain ⟨es, rfl, rfl, sm, ⟨zs, hz, hpz⟩, l0, l1, val⟩ := hP
      have lz := Paired.len hpz
      refine ⟨_, rfl, p, _, rfl, .inl (.of hz), _, rfl, _, _, rfl, rfl, _, rfl, ite2 (fun e1 => ?_) (fun e1 => ?_)⟩
      · have e1 : (zs.length : Int) ≤ M := of_decide_eq_true e1
        refine ⟨fun σ' H' => ∃ es', σ' = [some (.ref a), some (.ref e), some (.str k), some (.int M), some (.ref p), some (.int (chR items k)), y6, y7] ∧ M + 1 - es'.length < M + 1 - es.length ∧ Same H H' ∧ StL H' p es' ∧ L0 ≤ es'.length ∧ es'.length ≤ M + 1 ∧ ∀ n : Nat, n < es'.length → es'[n]? = some (fxR items k n), fun σ' H' z => ?_, ?_⟩
        · obtain ⟨es', e1, e2, r⟩ := z
          exact ⟨_, e2, es', e1, rfl, r⟩
        have fx : fxR items k es.length = withR k ((zs.length : Int) + chR items k) := by
          have := (low.far es.length (by omega)).2
          rw [List.take_length] at this
          unfold fxR
          rw [this, lz]
        refine ⟨_, rfl, .inl ⟨rfl, _, SqL.of hz⟩, _, rfl, _, rfl, p, _, rfl, .inl (.of hz), _, rfl, _, _, rfl, rfl, k, _, rfl, fun H5 v s5 hv => ⟨p, _, _, rfl, rfl, s5 _ _ hz, small (by omega), ?_⟩⟩
        have hz5 := s5 _ _ hz
        refine ⟨es ++ [fxR items k es.length], rfl, by rw [List.length_append]; show M + 1 - (es.length + 1) < _; omega, same_grow np (sm.trans s5), ⟨_, upd_same, Paired.app (sts_grow hz5 (sts_same s5 hpz)) (.cons ?_ .nil)⟩, by rw [List.length_append]; omega, by rw [List.length_append]; show es.length + 1 ≤ M + 1; omega, fun n hn => ?_⟩
        · rw [fx]
          exact hv.growE hz5
        · rw [List.length_append] at hn
          have hn : n < es.length + 1 := hn
          by_cases en : n < es.length
          · rw [List.getElem?_append_left en]
            exact val n en
          · have : n = es.length := by omega
            subst this
            rw [List.getElem?_append_right (Nat.le_refl _), Nat.sub_self]
            rfl
      · have e1 : ¬ (zs.length : Int) ≤ M := fun z => e1 (decide_eq_true z)
        exact ⟨_, rfl, q _ p es sm np ⟨zs, hz, hpz⟩ (by omega) (fun n hn => val n (by omega))⟩
end
end UP

set_option Elab.async false
set_option linter.all false
set_option maxRecDepth 100000
set_option maxHeartbeats 4000000
set_option pp.maxSteps 300
namespace UP
open PySem PySem.Spec PyProof.Rows L2
/-- a list or tuple of states -/
def StLG (H : Hp) (v : V) (es : List (Option Run)) : Prop := ∃ a xs, v = .ref a ∧ Sq2 H a xs ∧ Paired (StG H) xs es
theorem Sq2.sameE {H H' : Hp} {a : Addr} {xs : List V} (s : Same H H') (h : Sq2 H a xs) : Sq2 H' a xs := h.elim (fun z => .inl (s _ _ z)) (fun z => .inr (s _ _ z))
theorem StLG.same {H H' : Hp} {v : V} {es : List (Option Run)} (s : Same H H') (h : StLG H v es) : StLG H' v es := by
  obtain ⟨a, xs, e, hx, hp⟩ := h
  exact ⟨a, xs, e, Sq2.sameE s hx, Paired.imp (fun _ _ z => z.same s) hp⟩
theorem StL.dressE {H : Hp} {a : Addr} {es : List (Option Run)} (h : StL H a es) : StLG H (.ref a) es := by
  obtain ⟨xs, hx, hp⟩ := h
  exact ⟨a, xs, rfl, .inl hx, Paired.imp (fun _ _ z => z.dress) hp⟩
theorem shaped_w {k : Str} {c : Int} (h : KindOk k) : SeqAt.shaped (dOt (withR k c)) = true := by
  unfold withR
  split
  · exact (by decide : SeqAt.shaped (dOt none) = true)
  · exact shaped_run (r := (k, c)) h
theorem chR_ge (k : Str) : ∀ l : List Str, -(l.length : Int) ≤ chR l k
  | [] => Int.le_refl _
  | x :: t => by
    rw [chR_cons, List.length_cons]
    have := chR_ge k t
    split <;> omega
theorem with_inj {k : Str} {a : Int} (h : PosO (withR k a)) : 0 ≤ a := by
  by_cases z : a = 0
  · omega
  · have := h (k, a) (if_neg z)
    have : 1 ≤ a := this
    omega
theorem cut_takeE (xs : List V) (r : Nat) (h1 : r ≤ xs.length) : cutV xs none (some (r : Int)) = xs.take r := by
  have e : HT.sIx xs.length xs.length (some (r : Int)) = r := by
    have := HT.sIx_nat xs.length xs.length r
    omega
  unfold cutV
  rw [e, HT.sIx_none, List.drop_zero, Nat.sub_zero]
theorem paired_take {α β : Type} {F : α → β → Prop} : ∀ {xs : List α} {ys : List β} (n : Nat), Paired F xs ys → Paired F (xs.take n) (ys.take n)
  | _, _, 0, _ => .nil
  | _, _, n + 1, .nil => .nil
  | _, _, n + 1, .cons h t => .cons h (paired_take n t)
theorem eff_of {items : List Str} {k : Str} {es : List (Option Run)} {l : Nat} (len : es.length = items.length + 1) (val : ∀ n : Nat, n < items.length + 1 → es[n]? = some (fxR items k n)) (ll : l ≤ items.length)
    (far : ∀ m : Nat, l ≤ m → m ≤ items.length → fxR items k m = withR k (m + chR items k)) : EffOk items k (es.take (l + 1)) := by
  have lt : (es.take (l + 1)).length = l + 1 := by
    rw [List.length_take]
    omega
  refine ⟨by omega, fun n hn => ?_, chR items k, fun n hn => ?_⟩
  · rw [List.getElem?_take, if_pos (by omega)]
    exact val n (by omega)
  · rw [lt] at hn
    have hn : (l : Int) ≤ n := by omega
    have e : fxR items k n = withR k (n + chR items k) := by
      by_cases c : n ≤ items.length
      · have := far n.toNat (by omega) (by omega)
        rw [show ((n.toNat : Nat) : Int) = n by omega] at this
        exact this
      · exact fx_far k items n (by omega)
    refine ⟨?_, e⟩
    have p : PosO (fxR items k n) := stI_pos items _ (pos_with (by omega))
    rw [e] at p
    exact with_inj p
section
variable {P : Program} {w : World} {K : PySem.W.Frag} {mg : Str → Option Value} {base : Heap}
/-! is_state_of: slots 0:value 1:kind -/
abbrev s_is_state_of : Stmt := topS 57
theorem sc_is_state_of : FnScope ["value", "kind"] ["value", "kind"] (defScope s_is_state_of) := ⟨rfl, rfl, rfl, by decide +kernel, rfl, by decide +kernel, by decide +kernel⟩
def sp_is_state_of : Sp := fun vs H Q _ => ∃ (v : V) (st : Option Run) (k : Str), vs = [v, .str k] ∧ StG H v st ∧ StOk st ∧ (∀ r, st = some r → r.1 = k) ∧ ∀ H', Same H H' → Q (.bl true) H'
theorem ok_is_state_of (D : Df K mg "is_state_of" s_is_state_of) (G_is_state : Has P w K mg base 2 "is_state" ["value"] sp_is_state) : Has P w K mg base 3 "is_state_of" ["value", "kind"] sp_is_state_of := by
  refine has_of D sc_is_state_of (fun _ _ _ _ _ _ us hl => match us, hl with | [_, _], _ => rfl) (fun vs H Q E h => ?_) (fun f cdv A outer s₀ H vs Q E hr h => ?_)
  · obtain ⟨_, _, _, rfl, _⟩ := h
    rfl
  · obtain ⟨v, st, k, rfl, hv, so, sk, q⟩ := h
    refine ⟨_, (pss_one (ps_ret (pe_and (pe_callH G_is_state (hr.mono (by omega)) (by rfl) (pa_cons (pv 0) pa_nil)) (pe_one (pe_or (pe_cmpR op_isN (pv 0) pe_non (nomark _)) (pe_one (pe_cmpR op_eq (pe_ix ix_seq (pv 0) pe_int (fun _ _ => rfl)) (pv 1) (nomark _)))))))), ?_⟩
    refine ⟨_, rfl, v, st, rfl, hv, so, fun H1 s1 => ⟨true, rfl, iteP rfl ?_⟩⟩
    have hv1 := hv.same s1
    cases st with
    | none =>
      cases hv1
      exact ⟨_, rfl, rfl, _, rfl, iteP rfl (q _ s1)⟩
    | some r =>
      obtain ⟨t, rfl, ht⟩ := hv1
      have e := sk r rfl
      refine ⟨_, rfl, rfl, _, rfl, iteN rfl ⟨_, rfl, atSE ht rfl ⟨_, rfl, rfl, ?_⟩⟩⟩
      rw [decide_eq_true (show V.str r.1 = V.str k by rw [e])]
      exact q _ s1
/-! is_effects: slots 0:value 1:kind 2:effect -/
abbrev s_is_effects : Stmt := topS 56
theorem sc_is_effects : FnScope ["value", "kind", "effect"] ["value", "kind"] (defScope s_is_effects) := ⟨rfl, rfl, rfl, by decide +kernel, rfl, by decide +kernel, by decide +kernel⟩
/-- a list of effects for a kind -/
structure EffK (k : Str) (es : List (Option Run)) (c : Int) : Prop where
  len : 1 ≤ es.length ∧ es.length ≤ 401
  ok : ∀ e ∈ es, StOk e
  last : es.getLast? = some (withR k c)
  nn : 0 ≤ c
def sp_is_effects : Sp := fun vs H Q _ => ∃ (v : V) (k : Str) (es : List (Option Run)) (c : Int), vs = [v, .str k] ∧ StLG H v es ∧ EffK k es c ∧ ∀ H', Same H H' → Q (.bl true) H'
theorem with_kind {k : Str} {c : Int} {r : Run} (h : withR k c = some r) : r.1 = k := by
  unfold withR at h
  split at h
  · cases h
  · cases h
    rfl
theorem ok_is_effects (D : Df K mg "is_effects" s_is_effects) (T : Tx mg) (G_is_listed : Has P w K mg base 1 "is_listed" ["value", "most"] sp_is_listed) (G_is_state : Has P w K mg base 2 "is_state" ["value"] sp_is_state) (G_is_state_of : Has P w K mg base 3 "is_state_of" ["value", "kind"] sp_is_state_of) : Has P w K mg base 4 "is_effects" ["value", "kind"] sp_is_effects := by
  refine has_of D sc_is_effects (fun _ _ _ _ _ _ us hl => match us, hl with | [_, _], _ => rfl) (fun vs H Q E h => ?_) (fun f cdv A outer s₀ H vs Q E hr h => ?_)
  · obtain ⟨_, _, _, _, rfl, _⟩ := h
    rfl
  · obtain ⟨v, k, es, c, rfl, ⟨a, xs, rfl, hx, hp⟩, ef, q⟩ := h
    have lx : xs.length = es.length := Paired.len hp
    have el := ef.len
    refine ⟨_, (pss_cons (ps_if (PW.pt (pw_or (pt_not (pt_val (pe_callH G_is_listed (hr.mono (by omega)) (by rfl) (pa_cons (pv 0) (pa_cons (pe_glI T.c_MAX_EFFECTS (by rfl)) pa_nil))))) (pw_or (pt_cmpR op_eq (pe_callB call_len_seq (by rfl) T.n_len (by decide +kernel) (pa_cons (pv 0) pa_nil)) pe_int (nomark _)) (pw_or1 (pt_not (pt_val (pe_callB (cr_all rfl) (by rfl) T.n_all (by decide +kernel) (pa_cons (pe_lc (own := [("effect", 2)]) rfl sc_is_effects.nd (pi_seqV 0) (blkOk_by (N := ["value", "kind", "effect"]) (sc := defScope s_is_effects) (by decide +kernel)) (fun _ _ _ _ _ => (pg_name (i := 2) sc_is_effects.nd rfl (by first | exact Or.inl rfl | exact Or.inr rfl))) (fun _ _ _ _ _ => pts_nil) (fun _ _ _ _ _ => (pe_callH G_is_state (hr.mono (by omega)) (by rfl) (pa_cons (pv 2) pa_nil)))) pa_nil)))))))) (pss_one (ps_ret pe_bl)) pss_nil)
    (pss_one (ps_ret (pe_callH G_is_state_of (hr.mono (by omega)) (by rfl) (pa_cons (pe_ix ix_seq (pv 0) (pe_un un_neg pe_int) (fun _ _ => rfl)) (pa_cons (pv 1) pa_nil)))))), ?_⟩
    refine ⟨_, rfl, a, xs, 401, rfl, hx, fun H1 s1 => ⟨_, rfl, iteN ?_ ?_⟩⟩
    · rw [decide_eq_true (by omega)]
      rfl
    have hx1 := Sq2.sameE s1 hx
    refine ⟨_, rfl, a, xs, rfl, hx1.elim (fun z => .inl (.of z)) (fun z => .inr (.of z)), rfl, _, rfl, iteN (decide_eq_false (fun z => ?_)) ?_⟩
    · have : (xs.length : Int) = 0 := V.int.inj z
      omega
    refine ⟨a, xs, rfl, hx1, fun J wk L nL => lc_wk wk (fun i H' => Same H1 H' ∧ H' L = some (.lst ((List.replicate i true).map V.bl))) (fun _ _ p => p.1) ⟨same_upd nL, upd_same⟩ (fun i x H2 ex p => ?_) (fun H2 p => ?_)⟩
    · obtain ⟨sm, hL⟩ := p
      obtain ⟨st, er, hr1⟩ := Paired.at hp ex
      have hi : i < xs.length := (List.getElem?_eq_some_iff.mp ex).1
      refine ⟨rfl, yesT ⟨_, rfl, x, st, rfl, hr1.same (s1.trans sm), ef.ok st (List.mem_of_getElem? er), fun H3 s3 => ⟨_, s3 _ _ hL, ?_, same_grow nL (sm.trans s3), ?_⟩⟩⟩
      · simp only [List.length_map, List.length_replicate]
        exact small (by omega)
      · rw [upd_same, List.replicate_succ', List.map_append]
        rfl
    · refine ⟨L, _, rfl, .of p.2, _, rfl, iteN ?_ ?_⟩
      · rw [all_rep]
        rfl
      have s2 := s1.trans p.1
      have hx2 := Sq2.sameE s2 hx
      have hne : xs ≠ [] := fun z => by rw [z] at lx; have : es.length = 0 := lx.symm; omega
      obtain ⟨ys, y, exs⟩ : ∃ ys y, xs = ys ++ [y] := by
        rcases List.eq_nil_or_concat xs with e | ⟨ys, y, e⟩
        · exact absurd e hne
        · exact ⟨ys, y, by rw [e, List.concat_eq_append]⟩
      have exl : atI xs (-1) = some y := by
        rw [exs]
        exact atI_last _ _
      have hlast : StG H2 y (withR k c) := by
        have e1 : xs[xs.length - 1]? = some y := by
          rw [← List.getLast?_eq_getElem?, exs, List.getLast?_concat]
        obtain ⟨st, er, hr1⟩ := Paired.at hp e1
        have e2 := ef.last
        rw [List.getLast?_eq_getElem?, ← lx, er] at e2
        rw [← Option.some.inj e2]
        exact hr1.same s2
      have lok : StOk (withR k c) := ef.ok _ (List.mem_of_getLast? ef.last)
      exact ⟨_, rfl, _, rfl, atSE hx2 exl ⟨_, rfl, _, _, k, rfl, hlast, lok, (fun r e => with_kind e), fun H3 s3 => q _ (s2.trans s3)⟩⟩
/-! effect_of: slots 0:sequence 1:kind 2:items 3:effects 4:shift 5:least -/
abbrev s_effect_of : Stmt := topS 58
theorem sc_effect_of : FnScope ["sequence", "kind", "items", "effects", "shift", "least"] ["sequence", "kind"] (defScope s_effect_of) := ⟨rfl, rfl, rfl, by decide +kernel, rfl, by decide +kernel, by decide +kernel⟩
def sp_effect_of : Sp := fun vs H Q _ => ∃ (v : V) (rs : List Run) (k : Str), vs = [v, .str k] ∧ RunsG H v rs ∧ SeqOk rs ∧ lenR rs ≤ 400 ∧ KindOk k ∧ ∀ H' p es, Same H H' → H p = none → StL H' p es → EffOk (itR rs) k es → Q (.ref p) H'
theorem ok_effect_of (D : Df K mg "effect_of" s_effect_of) (T : Tx mg) (G_items_of : Has P w K mg base 7 "items_of" ["sequence"] sp_items_of) (G_check_kind : Has P w K mg base 2 "check_kind" ["kind"] sp_check_kind) (G_endings_of : Has P w K mg base 2 "endings_of" ["items"] sp_endings_of) (G_effects_up_to : Has P w K mg base 2 "effects_up_to" ["items", "endings", "kind", "most"] sp_effects_up_to)
    (G_shift_of : Has P w K mg base 1 "shift_of" ["items", "kind"] sp_shift_of) (G_state_with : Has P w K mg base 1 "state_with" ["kind", "number"] sp_state_with) : Has P w K mg base 8 "effect_of" ["sequence", "kind"] sp_effect_of := by
  refine has_of D sc_effect_of (fun _ _ _ _ _ _ us hl => match us, hl with | [_, _], _ => rfl) (fun vs H Q E h => ?_) (fun f cdv A outer s₀ H vs Q E hr h => ?_)
  · obtain ⟨_, _, _, rfl, _⟩ := h
    rfl
  · obtain ⟨v, rs, k, rfl, hR, ok, l4, kk, q⟩ := h
    have li := len_it rs fun r hr => (ok.2.1 r hr).2.1
    have il : (itR rs).length ≤ 400 := by omega
    have iok : ∀ x ∈ itR rs, KindOk x := fun x hx => by
      obtain ⟨r, hr, hk⟩ := List.mem_flatMap.mp hx
      rw [List.eq_of_mem_replicate hk]
      exact (ok.2.1 r hr).1
    refine ⟨_, (pss_cons (ps_set (i := 2) sc_effect_of.nd rfl (by first | exact Or.inl rfl | exact Or.inr rfl) (pe_callH G_items_of (hr.mono (by omega)) (by rfl) (pa_cons (pv 0) pa_nil)))
    (pss_cons (ps_expr (pe_callH G_check_kind (hr.mono (by omega)) (by rfl) (pa_cons (pv 1) pa_nil)))
    (pss_cons (ps_set (i := 3) sc_effect_of.nd rfl (by first | exact Or.inl rfl | exact Or.inr rfl) (pe_callH G_effects_up_to (hr.mono (by omega)) (by rfl) (pa_cons (pv 2) (pa_cons (pe_callH G_endings_of (hr.mono (by omega)) (by rfl) (pa_cons (pv 2) pa_nil)) (pa_cons (pv 1) (pa_cons (pe_callB call_len_seq (by rfl) T.n_len (by decide +kernel) (pa_cons (pv 2) pa_nil)) pa_nil))))))
    (pss_cons (ps_set (i := 4) sc_effect_of.nd rfl (by first | exact Or.inl rfl | exact Or.inr rfl) (pe_callH G_shift_of (hr.mono (by omega)) (by rfl) (pa_cons (pv 2) (pa_cons (pv 1) pa_nil))))
    (pss_cons (ps_set (i := 5) sc_effect_of.nd rfl (by first | exact Or.inl rfl | exact Or.inr rfl) (pe_callB call_len_seq (by rfl) T.n_len (by decide +kernel) (pa_cons (pv 2) pa_nil)))
    (pss_cons (ps_while PassesOwn.never (PW.pt (pw_and (pt_cmpR op_gt (pv 5) pe_int (nomark _)) (pw_and1 (pt_cmpR (op_eqD hr.units) (pe_ix ix_list (pv 3) (pe_op op_sub (pv 5) pe_int) (fun _ _ => rfl)) (pe_callH G_state_with (hr.mono (by omega)) (by rfl) (pa_cons (pv 1) (pa_cons (pe_op op_add (pe_op op_sub (pv 5) pe_int) (pv 4)) pa_nil))) (nomark _)))))
      (pss_one (ps_aug (i := 5) sc_effect_of.nd rfl (by first | exact Or.inl rfl | exact Or.inr rfl) pe_int ip_sub)))
    (pss_one (ps_ret (pe_slice sl_list (pv 3) po_none (po_some (pe_op op_add (pv 5) pe_int))))))))))), ?_⟩
    refine ⟨_, rfl, v, rs, rfl, hR, ok, l4, fun H1 p1 s1 n1 h1 => ?_⟩
    generalize itR rs = items at *
    have lm : (items.map V.str).length = items.length := List.length_map ..
    refine ⟨_, rfl, k, rfl, kk, fun H2 s2 => ?_⟩
    have h2 := s2 _ _ h1
    refine ⟨_, rfl, _, rfl, p1, items, rfl, h2, il, fun H3 e xs s3 ne he hE => ?_⟩
    have h3 := s3 _ _ h2
    refine ⟨_, rfl, _, rfl, p1, _, rfl, .inl (.of h3), p1, e, items, k, items.length, xs, by rw [lm]; rfl, h3, he, hE, Nat.le_refl _, il, fun H4 p4 es s4 n4 hes len val => ?_⟩
    have h4 := s4 _ _ h3
    have sA := s1.trans (s2.trans (s3.trans s4))
    have np4 : H p4 = none := (s1.trans (s2.trans s3)).free n4
    refine ⟨_, rfl, _, rfl, p1, items, k, rfl, h4, ?_⟩
    refine ⟨_, rfl, p1, _, rfl, .inl (.of h4), ?_⟩
    rw [lm]
    have eok : ∀ n : Nat, StOk (fxR items k n) := fun n => stOk_stI items _ iok (ok_with kk (by omega))
    refine ⟨fun m σ H' => ∃ l : Nat, σ = [some v, some (.str k), some (.ref p1), some (.ref p4), some (.int (chR items k)), some (.int l)] ∧ l = m ∧ Same H4 H' ∧ l ≤ items.length ∧ ∀ m : Nat, l ≤ m → m ≤ items.length → fxR items k m = withR k (m + chR items k), ⟨_, items.length, rfl, rfl, Same.refl _, Nat.le_refl _, fun m m1 m2 => ?_⟩, fun m σ H5 hP => ?_⟩
    · have : m = items.length := by omega
      subst this
      exact fx_far k items _ (Int.le_refl _)
    obtain ⟨l, rfl, rfl, s5, ll, far⟩ := hP
    obtain ⟨zs, hz, hpz⟩ := hes.same s5
    have lz := Paired.len hpz
    have out : ∀ (H6 : Hp), Same H5 H6 → ∀ c, H6 c = none → Q (.ref c) (upd H6 c (.lst (cutV zs none (some ((l : Int) + 1))))) := fun H6 s6 c nc => by
      have e1 : cutV zs none (some ((l : Int) + 1)) = zs.take (l + 1) := by
        have := cut_takeE zs (l + 1) (by omega)
        rw [show ((l + 1 : Nat) : Int) = (l : Int) + 1 by omega] at this
        exact this
      have sc := same_upd (o := .lst (cutV zs none (some ((l : Int) + 1)))) nc
      refine q _ c (es.take (l + 1)) (sA.trans (s5.trans (s6.trans sc))) ((sA.trans (s5.trans s6)).free nc) ⟨_, upd_same, ?_⟩ (eff_of len val ll far)
      rw [e1]
      have := paired_take (l + 1) (sts_same (s6.trans sc) hpz)
      rw [e1] at this
      exact this
    refine ⟨_, rfl, _, _, rfl, rfl, _, rfl, ite2 (fun e1 => ?_) (fun e1 => ?_)⟩
    · have e1 : 0 < (l : Int) := of_decide_eq_true e1
      have hl1 : l - 1 < es.length := by omega
      have ve := val (l - 1) (by omega)
      obtain ⟨x, hx, hxs⟩ := Paired.at' hpz ve
      have ex : atI zs ((l : Int) - 1) = some x := atI_ofR (by omega) (by rw [show ((l : Int) - 1).toNat = l - 1 by omega]; exact hx)
      refine ⟨_, rfl, _, rfl, _, _, rfl, rfl, p4, zs, _, x, rfl, rfl, .of hz, ex, _, rfl, _, rfl, _, _, rfl, rfl, _, rfl, _, _, rfl, rfl, k, _, rfl, fun H6 u s6 hu => ?_⟩
      refine ⟨dOt (fxR items k ((l - 1 : Nat) : Int)), dOt (withR k ((l : Int) - 1 + chR items k)), dp_o (hxs.same s6), dp_o hu, shaped_o (eok _), shaped_w kk, _, rfl, ?_⟩
      rw [eqv_o]
      refine ite2 (fun e2 => ?_) (fun e2 => ?_)
      · have e2 := of_decide_eq_true e2
        refine ⟨fun σ' H' => ∃ l' : Nat, σ' = [some v, some (.str k), some (.ref p1), some (.ref p4), some (.int (chR items k)), some (.int l')] ∧ l' < l ∧ Same H4 H' ∧ l' ≤ items.length ∧ ∀ m : Nat, l' ≤ m → m ≤ items.length → fxR items k m = withR k (m + chR items k), fun σ' H' z => ?_, ?_⟩
        · obtain ⟨l', a1, a2, r⟩ := z
          exact ⟨_, a2, l', a1, rfl, r⟩
        refine ⟨_, rfl, _, _, rfl, rfl, l - 1, ?_, by omega, s5.trans s6, by omega, fun m m1 m2 => ?_⟩
        · show [_, _, _, _, _, some (V.int ((l : Int) - 1))] = _
          rw [show ((l : Int) - 1) = ((l - 1 : Nat) : Int) by omega]
        · by_cases em : m = l - 1
          · rw [em, e2, show ((l : Int) - 1) = ((l - 1 : Nat) : Int) by omega]
          · exact far m (by omega) m2
      · exact ⟨_, rfl, _, rfl, _, _, rfl, rfl, _, rfl, p4, zs, rfl, .of (s6 _ _ hz), fun c nc => out _ s6 c nc⟩
    · exact iteN rfl ⟨_, rfl, _, rfl, _, _, rfl, rfl, _, rfl, p4, zs, rfl, .of hz, fun c nc => out _ (Same.refl _) c nc⟩
/-! effect_on: slots 0:effects 1:kind 2:state 3:number 4:least -/
abbrev s_effect_on : Stmt := topS 59
theorem sc_effect_on : FnScope ["effects", "kind", "state", "number", "least"] ["effects", "kind", "state"] (defScope s_effect_on) := ⟨rfl, rfl, rfl, by decide +kernel, rfl, by decide +kernel, by decide +kernel⟩
def sp_effect_on : Sp := fun vs H Q _ => ∃ (v u : V) (k : Str) (es : List (Option Run)) (c n : Int), vs = [v, .str k, u] ∧ StLG H v es ∧ EffK k es c ∧ KindOk k ∧ StG H u (withR k n) ∧ 0 ≤ n ∧
  (∀ e, n < es.length → es[n.toNat]? = some e → ∀ H' v', Same H H' → StV H' v' e → Q v' H') ∧ ((es.length : Int) ≤ n → ∀ H' v', Same H H' → StV H' v' (withR k (c + n - (es.length - 1))) → Q v' H')
theorem ok_effect_on (D : Df K mg "effect_on" s_effect_on) (T : Tx mg) (G_check_kind : Has P w K mg base 2 "check_kind" ["kind"] sp_check_kind) (G_is_effects : Has P w K mg base 4 "is_effects" ["value", "kind"] sp_is_effects) (G_is_state_of : Has P w K mg base 3 "is_state_of" ["value", "kind"] sp_is_state_of)
    (G_waiting_number : Has P w K mg base 1 "waiting_number" ["state"] sp_waiting_number) (G_checked_state : Has P w K mg base 3 "checked_state" ["state"] sp_checked_state) (G_state_with : Has P w K mg base 1 "state_with" ["kind", "number"] sp_state_with) : Has P w K mg base 5 "effect_on" ["effects", "kind", "state"] sp_effect_on := by
  refine has_of D sc_effect_on (fun _ _ _ _ _ _ us hl => match us, hl with | [_, _, _], _ => rfl) (fun vs H Q E h => ?_) (fun f cdv A outer s₀ H vs Q E hr h => ?_)
  · obtain ⟨_, _, _, _, _, _, rfl, _⟩ := h
    rfl
  · obtain ⟨v, u, k, es, c, n, rfl, hv, ef, kk, hu, n0, q1, q2⟩ := h
    have el := ef.len
    have nu : numR (withR k n) = n := by
      unfold withR
      split
      · rename_i z
        rw [z]
        rfl
      · rfl
    have nc : numR (withR k c) = c := by
      unfold withR
      split
      · rename_i z
        rw [z]
        rfl
      · rfl
    refine ⟨_, (pss_cons (ps_expr (pe_callH G_check_kind (hr.mono (by omega)) (by rfl) (pa_cons (pv 1) pa_nil)))
    (pss_cons (ps_if (pt_not (pt_val (pe_callH G_is_effects (hr.mono (by omega)) (by rfl) (pa_cons (pv 0) (pa_cons (pv 1) pa_nil))))) (pss_one ps_never) pss_nil)
    (pss_cons (ps_if (pt_not (pt_val (pe_callH G_is_state_of (hr.mono (by omega)) (by rfl) (pa_cons (pv 2) (pa_cons (pv 1) pa_nil))))) (pss_one ps_never) pss_nil)
    (pss_cons (ps_set (i := 3) sc_effect_on.nd rfl (by first | exact Or.inl rfl | exact Or.inr rfl) (pe_callH G_waiting_number (hr.mono (by omega)) (by rfl) (pa_cons (pv 2) pa_nil)))
    (pss_cons (ps_set (i := 4) sc_effect_on.nd rfl (by first | exact Or.inl rfl | exact Or.inr rfl) (pe_op op_sub (pe_callB call_len_seq (by rfl) T.n_len (by decide +kernel) (pa_cons (pv 0) pa_nil)) pe_int))
    (pss_cons (ps_if (pt_cmpR op_le (pv 3) (pv 4) (nomark _)) (pss_one (ps_ret (pe_callH G_checked_state (hr.mono (by omega)) (by rfl) (pa_cons (pe_ix ix_seq (pv 0) (pv 3) (fun _ _ => rfl)) pa_nil)))) pss_nil)
    (pss_one (ps_ret (pe_callH G_state_with (hr.mono (by omega)) (by rfl) (pa_cons (pv 1) (pa_cons (pe_op op_sub (pe_op op_add (pe_callH G_waiting_number (hr.mono (by omega)) (by rfl) (pa_cons (pe_ix ix_seq (pv 0) (pv 4) (fun _ _ => rfl)) pa_nil)) (pv 3)) (pv 4)) pa_nil))))))))))), ?_⟩
    refine ⟨_, rfl, k, rfl, kk, fun H1 s1 => ?_⟩
    refine ⟨_, rfl, _, rfl, v, k, es, c, rfl, hv.same s1, ef, fun H2 s2 => ⟨_, rfl, iteN rfl ?_⟩⟩
    have s2 := s1.trans s2
    refine ⟨_, rfl, _, rfl, u, _, k, rfl, hu.same s2, ok_with kk n0, (fun r e => with_kind e), fun H3 s3 => ⟨_, rfl, iteN rfl ?_⟩⟩
    have s3 := s2.trans s3
    refine ⟨_, rfl, u, _, rfl, hu.same s3, ?_⟩
    rw [nu]
    obtain ⟨a, xs, rfl, hx, hp⟩ := hv.same s3
    have lx : xs.length = es.length := Paired.len hp
    refine ⟨_, rfl, a, xs, rfl, hx.elim (fun z => .inl (.of z)) (fun z => .inr (.of z)), _, _, rfl, rfl, ?_⟩
    refine ⟨_, rfl, _, rfl, _, _, rfl, rfl, _, rfl, ite2 (fun e1 => ?_) (fun e1 => ?_)⟩
    · have e1 : n ≤ (xs.length : Int) - 1 := of_decide_eq_true e1
      have hn : n.toNat < xs.length := by omega
      obtain ⟨st, er, hr1⟩ := Paired.at hp (List.getElem?_eq_getElem hn)
      exact ⟨_, rfl, _, rfl, atSE hx (atI_ofR n0 (List.getElem?_eq_getElem hn)) ⟨_, st, rfl, hr1, ef.ok st (List.mem_of_getElem? er), fun H4 v4 s4 h4 => q1 st (by omega) er _ _ (s3.trans s4) h4⟩⟩
    · have e1 : ¬ n ≤ (xs.length : Int) - 1 := fun z => e1 (decide_eq_true z)
      have hn : xs.length - 1 < xs.length := by omega
      obtain ⟨st, er, hr1⟩ := Paired.at hp (List.getElem?_eq_getElem hn)
      have est : st = withR k c := by
        have e2 := ef.last
        rw [List.getLast?_eq_getElem?, ← lx, er] at e2
        exact Option.some.inj e2
      subst est
      refine ⟨_, rfl, _, rfl, _, rfl, atSE hx (atI_ofR (by omega) (by rw [show ((xs.length : Int) - 1).toNat = xs.length - 1 by omega]; exact List.getElem?_eq_getElem hn)) ⟨_, _, rfl, hr1, ?_⟩⟩
      rw [nc]
      refine ⟨_, rfl, _, _, rfl, rfl, _, rfl, _, _, rfl, rfl, k, _, rfl, fun H4 v4 s4 h4 => q2 (by omega) _ _ (s3.trans s4) ?_⟩
      rw [← lx]
      exact h4
end
end UP

set_option Elab.async false
set_option linter.all false
set_option maxRecDepth 100000
set_option maxHeartbeats 4000000
set_option pp.maxSteps 1200
namespace UP
open PySem PySem.Spec PyProof.Rows L2
section
variable {X : Cx} {K : PySem.W.Frag}
theorem op_eqDK (hK : X.K = K) (hu : X.A.units + 64 < cLine) : OpR X (compareOp .Eq) (rEqD K) := by
  subst hK
  exact op_eqD hu
end
/-! ### the states ahead of a state -/
def sbN (items : List Str) (goal : Option Run) (k : Str) (n : Nat) : List (Option Run) := ((List.range n).filter fun j : Nat => decide (stI items (some (k, 1 + (j : Int))) = goal)).map fun j : Nat => some (k, 1 + (j : Int))
def sbE (items : List Str) (goal : Option Run) (k : Str) : List (Option Run) := match goal with
  | none => []
  | some r => if r.1 = k ∧ (items.length : Int) < r.2 - chR items k then [some (k, r.2 - chR items k)] else []
def sbK (items : List Str) (goal : Option Run) (k : Str) : List (Option Run) := sbN items goal k items.length ++ sbE items goal k
def sb0 (items : List Str) (goal : Option Run) : List (Option Run) := if stI items none = goal then [none] else []
def sbR (items : List Str) (goal : Option Run) (ks : List Str) : List (Option Run) := sb0 items goal ++ ks.flatMap (sbK items goal)
theorem sbN_succ (items : List Str) (goal : Option Run) (k : Str) (n : Nat) : sbN items goal k (n + 1) = sbN items goal k n ++ (if stI items (some (k, 1 + (n : Int))) = goal then [some (k, 1 + (n : Int))] else []) := by
  unfold sbN
  rw [List.range_succ, List.filter_append, List.map_append]
  congr 1
  by_cases c : stI items (some (k, 1 + (n : Int))) = goal
  · rw [if_pos c]
    simp [c]
  · rw [if_neg c]
    simp [c]
theorem sbN_len (items : List Str) (goal : Option Run) (k : Str) (n : Nat) : (sbN items goal k n).length ≤ n := by
  unfold sbN
  rw [List.length_map]
  have := List.length_filter_le (fun j : Nat => decide (stI items (some (k, 1 + (j : Int))) = goal)) (List.range n)
  rw [List.length_range] at this
  exact this
theorem sbK_len (items : List Str) (goal : Option Run) (k : Str) : (sbK items goal k).length ≤ items.length + 1 := by
  unfold sbK sbE
  rw [List.length_append]
  have := sbN_len items goal k items.length
  cases goal with
  | none =>
    show _ + 0 ≤ _
    omega
  | some r =>
    dsimp only
    split
    · show _ + 1 ≤ _
      omega
    · show _ + 0 ≤ _
      omega
theorem sbF_len (items : List Str) (goal : Option Run) : ∀ ks : List Str, (ks.flatMap (sbK items goal)).length ≤ ks.length * (items.length + 1)
  | [] => Nat.zero_le _
  | k :: t => by
    have h1 := sbF_len items goal t
    have h2 := sbK_len items goal k
    rw [List.flatMap_cons, List.length_append, List.length_cons, Nat.succ_mul]
    omega
theorem sb0_len (items : List Str) (goal : Option Run) : (sb0 items goal).length ≤ 1 := by
  unfold sb0
  split <;> simp
theorem flat_snoc {α β : Type} (l : List α) (x : α) (f : α → List β) : (l ++ [x]).flatMap f = l.flatMap f ++ f x := by
  rw [List.flatMap_append]
  simp
theorem ok_sb {items : List Str} {goal : Option Run} {ks : List Str} (h : ∀ k ∈ ks, KindOk k) : ∀ e ∈ sbR items goal ks, StOk e := by
  intro e he
  rcases List.mem_append.mp he with z | z
  · unfold sb0 at z
    split at z
    · rw [List.mem_singleton.mp z]
      exact fun r q => by cases q
    · cases z
  · obtain ⟨k, hk, z⟩ := List.mem_flatMap.mp z
    have kk := h k hk
    rcases List.mem_append.mp z with z | z
    · obtain ⟨j, _, ej⟩ := List.mem_map.mp z
      rw [← ej]
      intro r q
      cases q
      exact ⟨kk, by show 1 ≤ 1 + (j : Int); omega⟩
    · unfold sbE at z
      cases goal with
      | none => cases z
      | some s =>
        dsimp only at z
        split at z
        · rename_i c
          rw [List.mem_singleton.mp z]
          intro r q
          cases q
          exact ⟨kk, by show 1 ≤ s.2 - chR items k; omega⟩
        · cases z
section
variable {P : Program} {w : World} {K : PySem.W.Frag} {mg : Str → Option Value} {base : Heap}
/-! states_before: slots 0:sequence 1:state 2:kinds 3:items 4:endings 5:length 6:states 7:kind 8:effects 9:number -/
abbrev s_states_before : Stmt := topS 62
theorem sc_states_before : FnScope ["sequence", "state", "kinds", "items", "endings", "length", "states", "kind", "effects", "number"] ["sequence", "state", "kinds"] (defScope s_states_before) := ⟨rfl, rfl, rfl, by decide +kernel, rfl, by decide +kernel, by decide +kernel⟩
def sp_states_before : Sp := fun vs H Q _ => ∃ (av v : V) (b : Addr) (rs : List Run) (goal : Option Run) (ks : List Str), vs = [av, v, .ref b] ∧ RunsG H av rs ∧ SeqOk rs ∧ lenR rs ≤ 400 ∧ StG H v goal ∧ StOk goal ∧ Sq2 H b (ks.map V.str) ∧ KsOk ks ∧ ∀ H' p, Same H H' → H p = none → StL H' p (sbR (itR rs) goal ks) → Q (.ref p) H'
theorem ok_states_before (D : Df K mg "states_before" s_states_before) (T : Tx mg) (G_items_of : Has P w K mg base 7 "items_of" ["sequence"] sp_items_of) (G_checked_state : Has P w K mg base 3 "checked_state" ["state"] sp_checked_state) (G_check_kinds : Has P w K mg base 3 "check_kinds" ["kinds"] sp_check_kinds) (G_endings_of : Has P w K mg base 2 "endings_of" ["items"] sp_endings_of)
    (G_effects_up_to : Has P w K mg base 2 "effects_up_to" ["items", "endings", "kind", "most"] sp_effects_up_to) (G_shift_of : Has P w K mg base 1 "shift_of" ["items", "kind"] sp_shift_of) : Has P w K mg base 8 "states_before" ["sequence", "state", "kinds"] sp_states_before := by
  refine has_of D sc_states_before (fun _ _ _ _ _ _ us hl => match us, hl with | [_, _, _], _ => rfl) (fun vs H Q E h => ?_) (fun f cdv A outer s₀ H vs Q E hr h => ?_)
  · obtain ⟨_, _, _, _, _, _, rfl, _⟩ := h
    rfl
  · obtain ⟨av, v, b, rs, goal, ks, rfl, hR, ok, l4, hv, okg, hb, okk, q⟩ := h
    have li := len_it rs fun r hr => (ok.2.1 r hr).2.1
    have il : (itR rs).length ≤ 400 := by omega
    have iok : ∀ x ∈ itR rs, KindOk x := fun x hx => by
      obtain ⟨r, hr, hk⟩ := List.mem_flatMap.mp hx
      rw [List.eq_of_mem_replicate hk]
      exact (ok.2.1 r hr).1
    refine ⟨_, (pss_cons (ps_set (i := 3) sc_states_before.nd rfl (by first | exact Or.inl rfl | exact Or.inr rfl) (pe_callH G_items_of (hr.mono (by omega)) (by rfl) (pa_cons (pv 0) pa_nil)))
    (pss_cons (ps_set (i := 1) sc_states_before.nd rfl (by first | exact Or.inl rfl | exact Or.inr rfl) (pe_callH G_checked_state (hr.mono (by omega)) (by rfl) (pa_cons (pv 1) pa_nil)))
    (pss_cons (ps_expr (pe_callH G_check_kinds (hr.mono (by omega)) (by rfl) (pa_cons (pv 2) pa_nil)))
    (pss_cons (ps_set (i := 4) sc_states_before.nd rfl (by first | exact Or.inl rfl | exact Or.inr rfl) (pe_callH G_endings_of (hr.mono (by omega)) (by rfl) (pa_cons (pv 3) pa_nil)))
    (pss_cons (ps_set (i := 5) sc_states_before.nd rfl (by first | exact Or.inl rfl | exact Or.inr rfl) (pe_callB call_len_seq (by rfl) T.n_len (by decide +kernel) (pa_cons (pv 3) pa_nil)))
    (C8.pss_cut (ps_set (i := 6) sc_states_before.nd rfl (by first | exact Or.inl rfl | exact Or.inr rfl) (pe_ifExp (pt_cmpR (op_eqD hr.units) (pe_ix ix_list (pv 4) pe_int (fun _ _ => rfl)) (pv 1) (nomark _)) (pe_lst (pa_cons pe_non pa_nil)) (pe_lst pa_nil)))
    (pss_cons (ps_for PassesOwn.never rfl (pi_seqA 2) (pg_name (i := 7) sc_states_before.nd rfl (by first | exact Or.inl rfl | exact Or.inr rfl))
      (pss_cons (ps_set (i := 8) sc_states_before.nd rfl (by first | exact Or.inl rfl | exact Or.inr rfl) (pe_callH G_effects_up_to (hr.mono (by omega)) (by rfl) (pa_cons (pv 3) (pa_cons (pv 4) (pa_cons (pv 7) (pa_cons (pv 5) pa_nil))))))
    (pss_cons (ps_expr (pe_bm PySem.F.plainAttrs_list PySem.F.slot_list_extend PySem.F.type_list_extend mt_extend (pv 6) (pa_cons (pe_lc (own := [("number", 9)]) rfl sc_states_before.nd (pi_range2 (by rfl) T.n_range (pa_cons pe_int (pa_cons (pe_op op_add (pv 5) pe_int) pa_nil))) (blkOk_by (N := ["sequence", "state", "kinds", "items", "endings", "length", "states", "kind", "effects", "number"]) (sc := defScope s_states_before) (by decide +kernel)) (fun _ _ _ _ _ => (pg_name (i := 9) sc_states_before.nd rfl (by first | exact Or.inl rfl | exact Or.inr rfl))) (fun _ _ _ _ _ => pts_one (pt_cmpR (op_eqDK (K := K) rfl hr.units) (pe_ix (ix_listK (K := K) rfl) (pv 8) (pv 9) (fun _ _ => rfl)) (pv 1) (nomark _))) (fun _ _ _ _ _ => (pe_tup (pa_cons (pv 7) (pa_cons (pv 9) pa_nil))))) pa_nil)))
    (pss_one (ps_if (PW.pt (pw_and (pt_cmpR op_notN (pv 1) pe_non (nomark _)) (pw_and (pt_cmpR op_eq (pe_ix ix_tup (pv 1) pe_int (fun _ _ => rfl)) (pv 7) (nomark _)) (pw_and1 (pt_cmpR op_gt (pe_op op_sub (pe_ix ix_tup (pv 1) pe_int (fun _ _ => rfl)) (pe_callH G_shift_of (hr.mono (by omega)) (by rfl) (pa_cons (pv 3) (pa_cons (pv 7) pa_nil)))) (pv 5) (nomark _)))))) (pss_one (ps_expr (pe_bm PySem.F.plainAttrs_list PySem.F.slot_list_append PySem.F.type_list_append mt_append (pv 6) (pa_cons (pe_tup (pa_cons (pv 7) (pa_cons (pe_op op_sub (pe_ix ix_tup (pv 1) pe_int (fun _ _ => rfl)) (pe_callH G_shift_of (hr.mono (by omega)) (by rfl) (pa_cons (pv 3) (pa_cons (pv 7) pa_nil)))) pa_nil))) pa_nil)))) pss_nil)))))
    (pss_one (ps_ret (pv 6)))))))))), ?_⟩
    refine ⟨_, rfl, av, rs, rfl, hR, ok, l4, fun H1 p1 s1 n1 h1 => ?_⟩
    generalize itR rs = items at *
    have lm : (items.map V.str).length = items.length := List.length_map ..
    refine ⟨_, rfl, v, goal, rfl, hv.same s1, okg, fun H2 v2 s2 hv2 => ?_⟩
    refine ⟨_, rfl, b, ks, rfl, (hb.same s1).same s2, okk, fun H3 s3 => ?_⟩
    have h3 := s3 _ _ (s2 _ _ h1)
    refine ⟨_, rfl, p1, items, rfl, h3, il, fun H4 e xs s4 ne he hE => ?_⟩
    have h4 := s4 _ _ h3
    have hv4 := (hv2.same s3).same s4
    have sA := s1.trans (s2.trans (s3.trans s4))
    obtain ⟨u0, hu0, hs0⟩ := id (hE.2 0 (Nat.le_refl _) (Nat.zero_le _))
    refine ⟨_, rfl, p1, _, rfl, .inl (.of h4), ?_⟩
    rw [lm]
    have iE := shaped_o (stOk_stI _ _ iok (fun r z => by cases z) : StOk (stI items none))
    refine ⟨fun σ' H' => ∃ s, σ' = [some av, some v2, some (.ref b), some (.ref p1), some (.ref e), some (.int items.length), some (.ref s), none, none, none] ∧ Same H4 H' ∧ H4 s = none ∧ StL H' s (sb0 items goal), ?_, fun σ' H5 hM => ?_⟩
    · refine ⟨_, rfl, e, _, 0, u0, rfl, rfl, .of he, atI_ofR (Int.le_refl _) hu0, _, rfl, dOt (stI items none), dOt goal, dp_o hs0, dp_o hv4, iE, shaped_o okg, _, rfl, ?_⟩
      rw [eqv_o]
      by_cases c : stI items none = goal
      · have e0 : sb0 items goal = [none] := if_pos c
        refine iteP (decide_eq_true c) ⟨(by show 1 ≤ sizeLine; decide), fun s ns => ⟨s, rfl, same_upd ns, ns, ?_⟩⟩
        rw [e0]
        exact ⟨_, upd_same, .cons rfl .nil⟩
      · have e0 : sb0 items goal = [] := if_neg c
        refine iteN (decide_eq_false c) ⟨Nat.zero_le _, fun s ns => ⟨s, rfl, same_upd ns, ns, ?_⟩⟩
        rw [e0]
        exact ⟨_, upd_same, .nil⟩
    obtain ⟨s, rfl, s5, ns, hs5⟩ := hM
    have sB := sA.trans s5
    have hb5 := hb.same sB
    have bs : b ≠ s := by
      rcases hb.same sA with h | h
      · exact ne_of_none h ns
      · exact ne_of_none h ns
    have ps : p1 ≠ s := ne_of_none h4 ns
    have es' : e ≠ s := ne_of_none he ns
    have nsH : H s = none := sA.free ns
    have h5 := s5 _ _ h4
    have he5 := s5 _ _ he
    have hv5 := hv4.same s5
    have hE5 : EndL H5 xs items 0 := ⟨hE.1, fun m a c => let ⟨v, y1, y2⟩ := hE.2 m a c; ⟨v, y1, y2.same s5⟩⟩
    obtain ⟨acc0, hacc0, _⟩ := id hs5
    have lks : ks.length ≤ 12 := okk.2.1
    refine ⟨b, _, rfl, hb5, fun J wk => for_wka wk (fun i σ H' => ∃ y7 y8 y9, σ = [some av, some v2, some (.ref b), some (.ref p1), some (.ref e), some (.int items.length), some (.ref s), y7, y8, y9] ∧ But s H5 H' ∧ StL H' s (sb0 items goal ++ (ks.take i).flatMap (sbK items goal)))
      (fun i σ H' hP => ?_) ⟨none, none, none, rfl, But.refl, by simpa using hs5⟩ (fun i x σ H6 ex hP => ?_) (fun σ H6 hP => ?_)⟩
    · obtain ⟨_, _, _, _, bt, _⟩ := hP
      rcases hb5 with h | h
      · exact (bt _ _ bs h).trans h.symm
      · exact (bt _ _ bs h).trans h.symm
    · obtain ⟨y7, y8, y9, rfl, b6, hs6⟩ := hP
      obtain ⟨k, ek, rfl⟩ := str_at ex
      have kk : KindOk k := okk.2.2.1 k (List.mem_of_getElem? ek)
      have hi : i < ks.length := (List.getElem?_eq_some_iff.mp ek).1
      have h6 := b6 _ _ ps h5
      have he6 := b6 _ _ es' he5
      have hv6 := hv5.butE hacc0 b6
      have hE6 : EndL H6 xs items 0 := ⟨hE5.1, fun m a c => let ⟨v, y1, y2⟩ := hE5.2 m a c; ⟨v, y1, y2.butE hacc0 b6⟩⟩
      refine ⟨_, rfl, _, rfl, _, rfl, _, rfl, p1, e, items, k, items.length, xs, rfl, h6, he6, hE6, Nat.le_refl _, il, fun H7 p7 es s7 n7 hes len val => ?_⟩
      have h7 := s7 _ _ h6
      have hs7 := hs6.same s7
      have hv7 := hv6.same s7
      obtain ⟨ws, hws, hwp⟩ := hes
      have fc : (ks.take i).length ≤ 12 := by
        rw [List.length_take]
        omega
      have lf := sbF_len items goal (ks.take i)
      have lf2 : (ks.take i).length * (items.length + 1) ≤ 12 * 401 := Nat.mul_le_mul fc (by omega)
      have l0 := sb0_len items goal
      obtain ⟨acc, hacc, haccp⟩ := hs7
      have la : acc.length ≤ 5000 := by
        rw [Paired.len haccp, List.length_append]
        omega
      refine ⟨_, rfl, .inl ⟨rfl, _, SqL.of hacc⟩, _, rfl, _, _, rfl, rfl, 1, _, rfl, ⟨by omega, by omega, by omega, by omega⟩, fun L nL => ?_⟩
      have en : ((items.length : Int) + 1 - 1).toNat = items.length := by omega
      rw [en]
      refine lc_range (lo := 1) (n := items.length) (fun i H' => Same H7 H' ∧ StL H' L (sbN items goal k i)) ⟨same_upd nL, [], upd_same, .nil⟩ (fun i H8 hi8 hP => ?_) (fun H8 hP => ?_)
      · obtain ⟨s8, zs, hL, hzp⟩ := hP
        have hi8 : i < items.length := hi8
        obtain ⟨w, hw, hwv⟩ := Paired.at' hwp (val (i + 1) (by omega))
        have ew : fxR items k ((i + 1 : Nat) : Int) = stI items (some (k, 1 + (i : Int))) := by
          unfold fxR
          rw [with_pos (by omega), show ((i + 1 : Nat) : Int) = 1 + (i : Int) by omega]
        rw [ew] at hwv
        have es1 := sbN_succ items goal k i
        have lz : zs.length ≤ i := by
          rw [Paired.len hzp]
          exact sbN_len items goal k i
        refine ⟨rfl, _, rfl, _, rfl, p7, _, 1 + (i : Int), w, rfl, rfl, .of (s8 _ _ hws), atI_ofR (by omega) (by rw [show (1 + (i : Int)).toNat = i + 1 by omega]; exact hw), _, rfl, dOt (stI items (some (k, 1 + (i : Int)))), dOt goal, dp_o (hwv.same s8), dp_o (hv7.same s8), shaped_o (stOk_stI _ _ iok (fun r z => by cases z; exact ⟨kk, by show 1 ≤ 1 + (i : Int); omega⟩)), shaped_o okg, _, rfl, ?_⟩
        rw [eqv_o]
        by_cases c : stI items (some (k, 1 + (i : Int))) = goal
        · rw [if_pos c] at es1
          refine iteP (decide_eq_true c) ⟨_, rfl, _, rfl, (by show 2 ≤ sizeLine; decide), fun t nt => ⟨zs, same_upd nt _ _ hL, small (by omega), same_grow nL (s8.trans (same_upd nt)), _, upd_same, ?_⟩⟩
          rw [es1]
          exact Paired.app (sts_grow (same_upd nt _ _ hL) (sts_same (same_upd nt) hzp)) (.cons (StV.growE (same_upd nt _ _ hL) ⟨t, rfl, upd_same⟩) .nil)
        · rw [if_neg c, List.append_nil] at es1
          refine iteN (decide_eq_false c) ⟨s8, zs, hL, ?_⟩
          rw [es1]
          exact hzp
      · obtain ⟨s8, zs, hL, hzp⟩ := hP
        have lz : zs.length ≤ items.length := by
          rw [Paired.len hzp]
          exact sbN_len items goal k _
        refine ⟨s, L, acc, zs, rfl, rfl, s8 _ _ hacc, hL, Nat.le_of_lt (small (by omega)), ?_⟩
        have h9s : (upd H8 s (.lst (acc ++ zs))) s = some (.lst (acc ++ zs)) := upd_same
        have b9 : But s H8 (upd H8 s (.lst (acc ++ zs))) := but_upd
        have pz : Paired (StV (upd H8 s (.lst (acc ++ zs)))) (acc ++ zs) ((sb0 items goal ++ (ks.take i).flatMap (sbK items goal)) ++ sbN items goal k items.length) := Paired.app (sts_grow (s8 _ _ hacc) (sts_same s8 haccp)) (sts_grow (s8 _ _ hacc) hzp)
        have hv9 := (hv7.same s8).butE (s8 _ _ hacc) b9
        have h9 := b9 _ _ ps (s8 _ _ h7)
        have B9 : But s H5 (upd H8 s (.lst (acc ++ zs))) := b6.trans ((Same.but s7).trans ((Same.but s8).trans b9))
        generalize upd H8 s (.lst (acc ++ zs)) = H9 at *
        have et : (ks.take (i + 1)).flatMap (sbK items goal) = (ks.take i).flatMap (sbK items goal) ++ sbK items goal k := by rw [take_snoc ek, flat_snoc]
        dsimp only
        refine if_by (fun bb H' => H' = H9 ∧ ((bb = true ∧ ∃ r, goal = some r ∧ sbE items goal k = [some (k, r.2 - chR items k)]) ∨ (bb = false ∧ sbE items goal k = []))) (fun Q' kq => ?_) (fun H10 hq => ?_) (fun H10 hq => ?_)
        · cases goal with
          | none =>
            cases hv9
            exact ⟨_, rfl, rfl, _, rfl, iteN rfl (kq _ _ ⟨rfl, .inr ⟨rfl, rfl⟩⟩)⟩
          | some r =>
            obtain ⟨t, rfl, ht⟩ := hv9
            refine ⟨_, rfl, rfl, _, rfl, iteP rfl ⟨_, rfl, t, _, 0, _, rfl, rfl, .of ht, at0, _, rfl, rfl, _, rfl, ?_⟩⟩
            by_cases c1 : r.1 = k
            · refine iteP (decide_eq_true (by rw [c1])) ⟨_, rfl, t, _, 1, _, rfl, rfl, .of ht, rfl, _, rfl, _, rfl, p1, items, k, rfl, h9, _, _, rfl, rfl, _, rfl, _, _, rfl, rfl, _, rfl, ?_⟩
              by_cases c2 : (items.length : Int) < r.2 - chR items k
              · rw [decide_eq_true c2]
                exact kq _ _ ⟨rfl, .inl ⟨rfl, r, rfl, if_pos ⟨c1, c2⟩⟩⟩
              · rw [decide_eq_false c2]
                exact kq _ _ ⟨rfl, .inr ⟨rfl, if_neg fun z => c2 z.2⟩⟩
            · exact iteN (decide_eq_false fun z => c1 (V.str.inj z)) (kq _ _ ⟨rfl, .inr ⟨rfl, if_neg fun z => c1 z.1⟩⟩)
        · obtain ⟨rfl, ⟨_, r, rfl, eE⟩ | ⟨z, _⟩⟩ := hq
          · obtain ⟨t, rfl, ht⟩ := hv9
            refine ⟨_, rfl, .inl ⟨rfl, _, SqL.of h9s⟩, _, rfl, _, rfl, t, _, 1, _, rfl, rfl, .of ht, rfl, _, rfl, _, rfl, p1, items, k, rfl, h9, _, _, rfl, rfl, (by show 2 ≤ sizeLine; decide), fun u nu => ⟨s, _, _, rfl, rfl, same_upd nu _ _ h9s, small (by rw [List.length_append]; omega), ?_⟩⟩
            have su := same_upd (o := .tup [.str k, .int (r.2 - chR items k)]) nu
            refine ⟨_, _, _, rfl, B9.trans ((Same.but su).trans but_upd), _, upd_same, ?_⟩
            rw [et]
            unfold sbK
            rw [eE, ← List.append_assoc, ← List.append_assoc]
            exact Paired.app (sts_grow (su _ _ h9s) (sts_same su pz)) (.cons (StV.growE (su _ _ h9s) ⟨u, rfl, upd_same⟩) .nil)
          · cases z
        · obtain ⟨rfl, ⟨z, _⟩ | ⟨_, eE⟩⟩ := hq
          · cases z
          · refine ⟨_, _, _, rfl, B9, _, h9s, ?_⟩
            rw [et]
            unfold sbK
            rw [eE, List.append_nil, ← List.append_assoc]
            exact pz
    · obtain ⟨y7, y8, y9, rfl, b6, hs6⟩ := hP
      rw [List.length_map, List.take_length] at hs6
      exact ⟨_, rfl, q _ s (fun x o hx => b6 _ _ (ne_of_none hx nsH) (sB _ _ hx)) nsH hs6⟩
end
end UP

set_option Elab.async false
set_option linter.all false
set_option maxRecDepth 100000
set_option maxHeartbeats 4000000
/-! sets of texts: set(list), len, sorted -/
namespace UP
open PySem PySem.Spec PyProof.Rows L2
/-- the text of a row -/
def kS (e : Int × Value) : Str := match e.2 with
  | .str k _ => k
  | _ => ""
def RowS (w : World) (e : Int × Value) : Prop := ∃ k tk, e = (PySem.hashStr w k, Value.str k tk)
def addS (xs : List Str) (k : Str) : List Str := if k ∈ xs then xs else k :: xs
theorem addS_mem {xs : List Str} {k x : Str} : x ∈ addS xs k ↔ x ∈ xs ∨ x = k := by
  unfold addS
  split
  · exact ⟨.inl, fun h => h.elim id fun e => e ▸ (by assumption)⟩
  · rw [List.mem_cons]; exact Or.comm
theorem addS_nodup {xs : List Str} {k : Str} (h : xs.Nodup) : (addS xs k).Nodup := by
  unfold addS
  split
  · exact h
  · exact List.nodup_cons.mpr ⟨by assumption, h⟩
theorem addS_len (xs : List Str) (k : Str) : (addS xs k).length ≤ xs.length + 1 := by
  unfold addS
  split
  · omega
  · exact Nat.le_refl _
/-- what set(ns) holds, in some order -/
def setS (ns : List Str) : List Str := ns.foldl addS []
theorem foldS_mem : ∀ (ns xs : List Str) (x : Str), x ∈ ns.foldl addS xs ↔ x ∈ xs ∨ x ∈ ns
  | [], xs, x => by simp
  | n :: t, xs, x => by
    rw [List.foldl_cons, foldS_mem t, addS_mem, List.mem_cons]
    exact or_assoc
theorem foldS_nodup : ∀ (ns xs : List Str), xs.Nodup → (ns.foldl addS xs).Nodup
  | [], _, h => h
  | n :: t, xs, h => foldS_nodup t _ (addS_nodup h)
theorem foldS_len : ∀ (ns xs : List Str), (ns.foldl addS xs).length ≤ xs.length + ns.length
  | [], xs => Nat.le_refl _
  | n :: t, xs => by
    have h1 := foldS_len t (addS xs n)
    have h2 := addS_len xs n
    rw [List.foldl_cons, List.length_cons]
    omega
theorem setS_mem {ns : List Str} {x : Str} : x ∈ setS ns ↔ x ∈ ns := by
  unfold setS
  rw [foldS_mem]
  simp
theorem setS_nodup (ns : List Str) : (setS ns).Nodup := foldS_nodup ns [] List.nodup_nil
theorem setS_len (ns : List Str) : (setS ns).length ≤ ns.length := by
  have := foldS_len ns []
  rw [List.length_nil, Nat.zero_add] at this
  exact this
theorem setS_snoc (ns : List Str) (k : Str) : setS (ns ++ [k]) = addS (setS ns) k := by
  unfold setS
  rw [List.foldl_append]
  rfl
/-- the set of texts at a, its members xs in any order -/
def SetS (w : World) (h : Heap) (a : Addr) (xs : List Str) : Prop :=
  ∃ (o : Obj) (rs : Array (Int × Value)) (ep : Nat) (tb : SetTable), (h.get? a = some o ∧ o.ExactSet ∧ o.data = .set rs ep tb) ∧ (∀ e ∈ rs.toList, RowS w e) ∧ (rs.toList.map kS).Perm xs ∧ xs.Nodup ∧
    (rs.size < scanBound ∧ tb.fits rs.size = true) ∧ Ris tb.place.toList ∧ (w.params.followText "set-order" = true ∨ tb.led = true)
section
variable {P : Program} {w : World} {A : Around} {E : Value → Shared → Prop} {s : Shared} {a : Addr} {xs : List Str}
theorem SetS.at {h h' : Heap} (R : SetS w h a xs) (k : ∀ o, h.get? a = some o → h'.get? a = some o) : SetS w h' a xs :=
  let ⟨o, rs, ep, tb, ⟨ho, hx, hd⟩, r⟩ := R
  ⟨o, rs, ep, tb, ⟨k o ho, hx, hd⟩, r⟩
theorem row_is {e : Int × Value} (g : RowS w e) (k : Str) : ((PySem.strKind P w).is k e.2 = true) ↔ kS e = k := by
  obtain ⟨z, tk, rfl⟩ := g
  exact ⟨fun h => by
    have := eq_of_beq (show (z == k) = true from h)
    exact this, fun h => (show (z == k) = true from beq_iff_eq.mpr h)⟩
theorem rows_elems {l : List (Int × Value)} (g : ∀ e ∈ l, RowS w e) : ElemsOf (PySem.strKind P w) l := fun e he => by
  obtain ⟨z, tk, rfl⟩ := g e he
  exact ⟨⟨z, (show (z == z) = true from beq_self_eq_true z), rfl⟩, rfl⟩
/-- what stands at a after a store -/
theorem stored {h : Heap} {o : Obj} {rs rs' : Array (Int × Value)} {ep : Nat} {tb tb' : SetTable} (ho : h.get? a = some o) (hd : o.data = .set rs ep tb) :
    (h.update a (Obj.putSet rs' tb')).get? a = some { o with data := .set rs' (ep + 1) tb' } := L2.store_at ho hd
/-- behind the place of a new row: stored, and laid anew where the table is full -/
theorem sS_tail {gv : Bool → Sem Unit} (hgv : ∀ (b : Bool) (z : Shared) (Qu : Unit → Shared → Prop), Qu () z → wpAny (model P w) A (gv b) Qu E z)
    {o : Obj} {rs r1 : Array (Int × Value)} {ep : Nat} {tb t1 : SetTable} (ho : s.heap.get? a = some o) (hex : o.ExactSet) (hd : o.data = .set rs ep tb) (hr1 : ∀ e ∈ r1.toList, RowS w e)
    {ys : List Str} (hp : (r1.toList.map kS).Perm ys) (hn : ys.Nodup) (hb : r1.size < scanBound) (hf : t1.fits r1.size = true) (hris : Ris t1.place.toList) (hled : w.params.followText "set-order" = true ∨ t1.led = true)
    {dum : Bool} {R : Option Bool → Shared → Prop} (hR : ∀ h', Heap.SameBut a s.heap h' → SetS w h' a ys → R (some true) { s with heap := h' }) :
    wpAny (model P w) A (do storeSet a r1 t1
                            if (!dum && t1.tooFull) = true then do
                              gv (relayAll t1 r1 (SetTable.grown r1.size)).2.2
                              storeSet a (relayAll t1 r1 (SetTable.grown r1.size)).1 (relayAll t1 r1 (SetTable.grown r1.size)).2.1
                              pure (some true)
                            else pure (some true)) R E s := by
  have same1 := Heap.SameBut.update s.heap a (Obj.putSet r1 t1)
  have at1 := stored (a := a) (rs' := r1) (tb' := t1) ho hd
  refine wpAny_bind (wpAny_storeSet_of ho hd ?_ (fits_of_scanBound hb))
  by_cases hfull : (!dum && t1.tooFull) = true
  · rw [if_pos hfull]
    have a1 := relayAll_perm t1 r1 (SetTable.grown r1.size)
    have a2 := relayAll_fits t1 r1 (SetTable.grown r1.size)
    have a3 := L2.relayAll_ris t1 r1 (SetTable.grown r1.size)
    have a4 := L2.relayAll_led t1 r1 (SetTable.grown r1.size)
    generalize relayAll t1 r1 (SetTable.grown r1.size) = Y at a1 a2 a3 a4 ⊢
    obtain ⟨r2, t2, gave⟩ := Y
    dsimp only at a1 a2 a3 a4 ⊢
    have size2 : r2.size = r1.size := by rw [← Array.length_toList, a1.length_eq, Array.length_toList]
    refine wpAny_bind (hgv _ _ _ ?_)
    refine wpAny_bind (wpAny_storeSet_of at1 rfl ?_ (fits_of_scanBound (size2.symm ▸ hb)))
    refine wpAny_pure (hR _ (same1.trans (Heap.SameBut.update _ a _)) ⟨_, r2, _, t2, ⟨stored at1 rfl, hex, rfl⟩, fun e he => hr1 e (a1.mem_iff.mp he), (a1.map kS).trans hp, hn, ⟨size2.symm ▸ hb, a2⟩, a3, hled.imp id fun z => a4.trans z⟩)
  · rw [if_neg hfull]
    exact wpAny_pure (hR _ same1 ⟨_, r1, _, t1, ⟨at1, hex, rfl⟩, hr1, hp, hn, ⟨hb, hf⟩, hris, hled⟩)
theorem sS_add {k : Str} {tk : Tok} {Q : Bool → Shared → Prop} (R : SetS w s.heap a xs) (room : xs.length + 1 < scanBound) (hQ : ∀ b h', Heap.SameBut a s.heap h' → SetS w h' a (addS xs k) → Q b { s with heap := h' }) :
    wpAny (model P w) A (setAddHashed a (.str k tk) ((PySem.strKind P w).hash k)) Q E s := by
  obtain ⟨o, rs, ep, tb, ⟨ho, hex, hd⟩, g, pm, nd, ⟨hb, hf⟩, hr, hl⟩ := R
  have el : ElemsOf (PySem.strKind P w) rs.toList := rows_elems g
  have key : (PySem.strKind P w).is k (.str k tk) = true := (show (k == k) = true from beq_self_eq_true k)
  have scn : (Value.str k tk).scannable = true := rfl
  have lenR : rs.size = xs.length := by rw [← Array.length_toList, ← pm.length_eq, List.length_map]
  have memR : ∀ z, z ∈ xs ↔ ∃ e ∈ rs.toList, (PySem.strKind P w).is z e.2 = true := fun z => by
    rw [← pm.mem_iff, List.mem_map]
    exact ⟨fun ⟨e, h1, h2⟩ => ⟨e, h1, (row_is (g e h1) z).mpr h2⟩, fun ⟨e, h1, h2⟩ => ⟨e, h1, (row_is (g e h1) z).mp h2⟩⟩
  unfold setAddHashed setAddHashedIn
  refine wpAny_holding (wpAny_bind (wpAny_setState_of ho hd hf ?_))
  dsimp only
  rw [byScan_of scn hb el]
  simp only [↓reduceIte]
  unfold setAddByScan
  refine wpAny_bind (wpAny_bind (wpAny_rule (wpAny_bind (wpAny_setScan_of key ho hd hf el ?_))))
  cases fnd : List.findIdx? (fun e => (PySem.strKind P w).is k e.2) rs.toList with
  | some j =>
    dsimp only
    obtain ⟨hj, pj, _⟩ := List.findIdx?_eq_some_iff_getElem.mp fnd
    have inx : k ∈ xs := (memR k).mpr ⟨_, List.getElem_mem hj, pj⟩
    refine wpAny_pure (wpAny_pure (hQ _ s.heap (Heap.SameBut.refl a s.heap) ?_))
    have e : addS xs k = xs := if_pos inx
    rw [e]
    exact ⟨o, rs, ep, tb, ⟨ho, hex, hd⟩, g, pm, nd, ⟨hb, hf⟩, hr, hl⟩
  | none =>
    dsimp only
    have nin : k ∉ xs := fun z => by
      obtain ⟨e, he, q⟩ := (memR k).mp z
      rw [List.findIdx?_eq_none_iff.mp fnd e he] at q
      cases q
    have e : addS xs k = k :: xs := if_neg nin
    rw [e] at hQ
    have gave' : ∀ (b : Bool) {z : Shared} {Qu : Unit → Shared → Prop}, Qu () z → wpAny (model P w) A (match b with | true => rule "set.scan.the-table-gave-way" | false => pure ()) Qu E z := fun b z Qu q => by
      cases b
      · exact wpAny_pure q
      · exact wpAny_rule q
    have b1 := layNew_perm tb rs ((PySem.strKind P w).hash k) (.str k tk)
    have b2 := layNew_fits tb rs ((PySem.strKind P w).hash k) (.str k tk)
    have b3 := L2.layNew_ris tb rs ((PySem.strKind P w).hash k) (.str k tk) hr
    have b4 := L2.layNew_led tb rs ((PySem.strKind P w).hash k) (.str k tk)
    generalize layNew tb rs ((PySem.strKind P w).hash k) (.str k tk) = Y at b1 b2 b3 b4 ⊢
    obtain ⟨r1, t1, dum, gave⟩ := Y
    dsimp only at b1 b2 b3 b4 ⊢
    rw [Array.toList_push] at b1
    have c1 : r1.toList.Perm (((PySem.strKind P w).hash k, Value.str k tk) :: rs.toList) := b1.trans (List.perm_append_singleton _ _)
    have c2 : (r1.toList.map kS).Perm (k :: xs) := (c1.map kS).trans (pm.cons k)
    have c3 : ∀ e ∈ r1.toList, RowS w e := fun e he => (List.mem_cons.mp (c1.mem_iff.mp he)).elim (fun z => ⟨k, tk, z⟩) (g e)
    have c4 : (k :: xs).Nodup := List.nodup_cons.mpr ⟨nin, nd⟩
    have c5 : r1.size < scanBound := by
      have z := c1.length_eq
      rw [Array.length_toList, List.length_cons, Array.length_toList, lenR] at z
      omega
    have c6 : w.params.followText "set-order" = true ∨ t1.led = true := hl.imp id fun z => b4.trans z
    refine wpAny_bind (gave' _ ?_)
    split
    · refine wpAny_bind ?_
      rw [hashByValue_scannable 8 scn]
      refine wpAny_pure (sS_tail ?_ ho hex hd c3 c2 c4 c5 ?_ ?_ ?_ ?_)
      · intro b z Qu q
        cases b
        · exact wpAny_pure q
        · exact wpAny_rule q
      · first | (split <;> first | exact b2 | exact SetTable.fits_plain_off b2) | exact b2
      · first | (split <;> exact b3) | exact b3
      · first | (split <;> exact c6) | exact c6
      · intro h' sb r
        dsimp only
        exact wpAny_pure (hQ _ h' sb r)
    · refine wpAny_bind (wpAny_pure ?_)
      simp only [↓reduceIte]
      refine sS_tail ?_ ho hex hd c3 c2 c4 c5 b2 b3 c6 ?_
      · intro b z Qu q
        cases b
        · exact wpAny_pure q
        · exact wpAny_rule q
      · intro h' sb r
        dsimp only
        exact wpAny_pure (hQ _ h' sb r)
theorem sS_new {h : Heap} (ho : h.get? a = some { cls := .type "set", dict := none, data := .set #[] 0 (.fresh 0 0 (!w.params.followText "set-order")) }) : SetS w h a [] := by
  refine ⟨_, #[], 0, _, ⟨ho, ⟨rfl, rfl, rfl⟩, rfl⟩, fun e he => ?_, List.Perm.refl _, List.nodup_nil, ⟨by decide, by rfl⟩, List.Pairwise.nil, ?_⟩
  · simp at he
  · show _ ∨ (!w.params.followText "set-order") = true
    cases w.params.followText "set-order"
    · exact .inr rfl
    · exact .inl rfl
/-- the walk that adds -/
theorem sS_update {I : Addr} {fp wr : List Addr} {G : Array GenState → Array GenState → Prop} {n : Nat} {Pv : Nat → Value → Prop} {St : Nat → Shared → Prop} {R : Result → Shared → Prop}
    (W : WalksS P w A.in1 I fp wr G n Pv St) (S : Addr) (out : S ∉ fp) (ns : List Str) (hn : n = ns.length) (hb : ns.length + 1 < scanBound) (hval : ∀ (i : Nat) (v : Value), Pv i v → ∃ (k : Str) (t : Tok), ns[i]? = some k ∧ v = Value.str k t) :
    ∀ (k i : Nat) (s : Shared), n - i = k → i ≤ n → St i s → SetS w s.heap S (setS (ns.take i)) → (∀ s', Moved (S :: wr) G s s' → SetS w s'.heap S (setS ns) → R (.ok (.ret .none)) s') →
      codeAny (model P w) A (.builtin "set.update.loop" ⟨[.ref S, .ref I], []⟩) R s := by
  have outW : S ∉ wr := fun h => out (W.sub _ h)
  have more : ∀ b ∈ wr, b ∈ S :: wr := fun b hb => List.mem_cons_of_mem _ hb
  intro k
  induction k with
  | zero =>
    intro i s ek hi hst hS hR
    have ei : i = n := by omega
    subst ei
    refine codeAny_builtin PyProof.Rows.F.entry_set_update_loop ?_
    rw [Around.under_plainId PyProof.Rows.F.plain_set_update_loop _]
    show wpAny _ A.in1 (pyNext (.ref I) >>= _) _ _ s
    refine wpAny_bind (W.done s _ _ hst fun s' hm => ?_)
    show wpAny _ A.in1 (ret Value.none) _ _ s'
    rw [List.take_of_length_le (Nat.le_of_eq hn.symm)] at hS
    exact wpAny_pure (hR s' (hm.mono more) (hS.at fun o e => hm.heap S o outW e))
  | succ k ih =>
    intro i s ek hi hst hS hR
    have lt : i < n := by omega
    refine codeAny_builtin PyProof.Rows.F.entry_set_update_loop ?_
    rw [Around.under_plainId PyProof.Rows.F.plain_set_update_loop _]
    show wpAny _ A.in1 (pyNext (.ref I) >>= _) _ _ s
    refine wpAny_bind (W.item i s _ _ lt hst fun v s' hP hst' hm => ?_)
    obtain ⟨z, t, hz, rfl⟩ := hval i v hP
    have hS' : SetS w s'.heap S (setS (ns.take i)) := hS.at fun o e => hm.heap S o outW e
    have lz : (setS (ns.take i)).length + 1 < scanBound := by
      have h1 := setS_len (ns.take i)
      rw [List.length_take] at h1
      omega
    show wpAny _ A.in1 (holding [Value.str z t] (setAdd S (.str z t)) >>= _) _ _ s'
    refine wpAny_bind (wpAny_holding ?_)
    unfold setAdd
    refine wpAny_holding (wpAny_bind ((PySem.strKind P w).pyHash (k := z) (show (z == z) = true from beq_self_eq_true z) ?_))
    refine sS_add (s := { s' with toks := s'.toks + 1 }) hS' lz fun b h' same hS2 => ?_
    have hS3 : SetS w h' S (setS (ns.take (i + 1))) := by
      have e : ns.take (i + 1) = ns.take i ++ [z] := by rw [List.take_add_one, hz] <;> rfl
      rw [e, setS_snoc]
      exact hS2
    refine wpAny_pure ⟨plainId_quiet PyProof.Rows.F.plain_set_update_loop _, ih (i + 1) _ (by omega) lt (W.frame _ s' _ _ hst' (Nat.le_succ _) fun b hb o e => ?_) hS3 fun s2 hm2 hS4 => ?_⟩
    · have ne : b ≠ S := fun h => out (h ▸ hb)
      rw [same.2 b ne]
      exact e
    · refine hR s2 (Moved.trans W.gtrans ((hm.mono more).then_heap (Nat.le_succ _) fun b o hb e => ?_) hm2) hS4
      have ne : b ≠ S := fun h => hb (h ▸ List.mem_cons_self)
      rw [same.2 b ne]
      exact e
abbrev freshS (w : World) : Obj := { cls := .type "set", dict := none, data := .set #[] 0 (.fresh 0 0 (!w.params.followText "set-order")) }
/-- set(l), l a list of texts -/
theorem set_strs {l : Addr} {its : Array Value} (ns : List Str) {Q : Value → Shared → Prop} (hh : A.handled = none) (hl : s.heap.IsList l its) (hz : its.size = ns.length) (hv : ∀ (i : Nat) (v : Value), its[i]? = some v → ∃ (k : Str) (t : Tok), ns[i]? = some k ∧ v = Value.str k t)
    (hb : ns.length + 1 < scanBound) (q : ∀ (h' : Heap) (tk : Nat), SetS w h' s.heap.objs.size (setS ns) → (∀ b o, s.heap.get? b = some o → h'.get? b = some o) → Q (.ref s.heap.objs.size) { s with heap := h', toks := tk }) :
    wpAny (model P w) A (call (.type "set") [.ref l]) Q E s := by
  obtain ⟨c, tl, hmro⟩ := PySem.F.called_set.mro
  have made := PySem.F.called_set.made
  have subs := PySem.F.called_set.sub
  refine wpAny_call (codeAny_of_tree ?_)
  show wpAny _ _ (callAny (.type "set") _) _ _ _
  refine wpAny_pure ⟨Code.quiet_builtin _ (by decide +kernel), codeAny_builtin PySem.F.entry_type_call ?_⟩
  rw [Around.under_plain (weight_type_call_type "set" [.ref l] []) rfl]
  have t1 := PySem.F.called_set.notType
  have t2 := PySem.F.called_set.canCreate
  have t3 := PySem.F.typeCall_set_1 (.ref l)
  repeat (any_goals (first | assumption | wp_step))
  refine codeAny_mono (L2.code_set_led1 (.ref l) (E := E) (Q₁ := fun ob z => ob = .ref s.heap.objs.size ∧ z = { s with heap := s.heap.push (freshS w) }) ⟨rfl, rfl⟩) fun r z hr => ?_
  cases r with
  | error e => exact hr
  | ok fl =>
    cases fl with
    | ret ob =>
      obtain ⟨rfl, rfl⟩ := hr
      have atS : (s.heap.push (freshS w)).get? s.heap.objs.size = some (freshS w) := Heap.get?_push_size _ rfl
      have isS : Shared.TypeIs { s with heap := s.heap.push (freshS w) } (.ref s.heap.objs.size) "set" := ⟨_, atS, rfl⟩
      have i1 := PySem.F.called_set.init.lookup
      have i2 := PySem.F.called_set.init.bind (.ref s.heap.objs.size)
      repeat (any_goals (first | assumption | wp_step))
      refine codeAny_mono (codeAny_call_builtin (R := wants (fun r z => r = .none ∧ ∃ h' tk, z = { s with heap := h', toks := tk } ∧ SetS w h' s.heap.objs.size (setS ns) ∧ (∀ b o, s.heap.get? b = some o → h'.get? b = some o)) E)
        PySem.F.called_set.init.plain PySem.F.entry_set_init (check_set_init_1 isS ?_)) fun r2 z2 hr2 => ?_
      · obtain ⟨ol, hol, hcl, nl, hdl⟩ := hl
        obtain ⟨ocls, odict, odata, oslots⟩ := ol
        simp only at hcl hdl
        subst hcl
        subst hdl
        have hol2 : (s.heap.push (freshS w)).get? l = some { cls := .type "list", dict := odict, data := .seq its nl, slots := oslots } := Heap.get?_push_of_some _ hol
        have u1 := PySem.F.sub_list_set
        have u2 := PySem.F.sub_list_frozenset
        have u3 : (Value.type "list" == Value.type "dict") = false := by decide
        have isL : (s.heap.push (freshS w)).IsList l its := ⟨_, hol2, rfl, nl, rfl⟩
        unfold Builtin.«set.__init__» noKeywords Builtin.Frozenset.updateFrom
        generalize ePI : pyIter = PI
        wp_walk
        subst ePI
        refine wpAny_pyIter_list isL ?_
        refine wpAny_bind (wpAny_runValue ?_)
        have lt : l < s.heap.objs.size := Heap.lt_size hol
        have cold : A.in1.in1.in1.handled = none := by simp [hh]
        have sz1 : (s.heap.push (freshS w)).objs.size = s.heap.objs.size + 1 := Heap.size_push ..
        have neI : l ≠ (s.heap.push (freshS w)).objs.size := sz1.symm ▸ Nat.ne_of_lt (Nat.lt_succ_of_lt lt)
        have notIn : s.heap.objs.size ∉ [(s.heap.push (freshS w)).objs.size, l] := by
          rw [sz1]
          intro hm
          rcases List.mem_cons.mp hm with e | e
          · exact Nat.ne_of_lt (Nat.lt_succ_self _) e
          · exact Nat.ne_of_gt lt (List.mem_singleton.mp e)
        refine sS_update ((Walks.list cold _ l neI its).toS) s.heap.objs.size notIn ns hz hb hv (its.size - 0) 0 _ (by omega) (Nat.zero_le _) ⟨⟨_, Heap.get?_push_size _ rfl, rfl, rfl⟩, (isL.push _)⟩ ?first ?last
        case first => exact sS_new (Heap.get?_push_of_some _ atS)
        case last =>
          intro s' hm hS'
          obtain ⟨h', g2, d2, tk2, os2⟩ := s'
          have eg : g2 = s.gens := hm.gens
          have ed : d2 = s.drawn := hm.drawn
          have eo : os2 = s.os := hm.os
          subst eg
          subst ed
          subst eo
          show wpAny _ _ _ _ _ _
          refine wpAny_pure ?_
          show wpAny _ _ (ret Value.none) _ _ _
          refine wpAny_pure ⟨rfl, h', tk2, rfl, hS', fun b o e => ?_⟩
          have lb : b < s.heap.objs.size := Heap.lt_size e
          refine hm.heap b o (fun z => ?_) (Heap.get?_push_of_some _ (Heap.get?_push_of_some _ e))
          rcases List.mem_cons.mp z with z | z
          · exact Nat.ne_of_lt lb z
          · exact Nat.ne_of_lt (Nat.lt_succ_of_lt lb) ((List.mem_singleton.mp z).trans sz1)
      · cases r2 with
        | error e => exact hr2
        | ok fl2 =>
          cases fl2 with
          | ret r =>
            obtain ⟨rfl, h', tk2, rfl, hS', hk⟩ := hr2
            repeat (any_goals (first | assumption | wp_step))
            exact q _ _ hS' hk
          | _ => exact hr2.elim
    | _ => exact hr.elim
theorem strs_rows : ∀ (l : List Value) (ys : List Str), (∀ v ∈ l, ∃ k tk, v = Value.str k tk) → l.map (fun v => match v with | .str k _ => k | _ => "") = ys → StrsAre l ys
  | [], _, _, rfl => .nil
  | v :: l, _, h, rfl => by
    obtain ⟨k, tk, rfl⟩ := h v List.mem_cons_self
    exact .cons k tk (strs_rows l _ (fun u hu => h u (List.mem_cons_of_mem _ hu)) rfl)
/-- sorted(set) -/
theorem sorted_setS {Q : Value → Shared → Prop} (R : SetS w s.heap a xs) (hh : A.handled = none) (h64 : xs.length < 64)
    (q : ∀ s' p (out : Array Value) (c : Nat) (ys : List Str), (∀ b o, s.heap.get? b = some o → s'.heap.get? b = some o) → s'.gens = s.gens → s'.os = s.os → s.heap.objs.size ≤ p → s'.heap.get? p = some (seqObj "list" out c) →
      StrsAre out.toList ys → ys.Perm xs → sortedS ys = true → Q (.ref p) s') : wpAny (model P w) A (call (.builtin "sorted") [.ref a]) Q E s := by
  obtain ⟨o, rs, ep, tb, ⟨ho, hex, hd⟩, g, pm, nd, ⟨hb, hf⟩, hr, hl⟩ := R
  refine Calls.call_function_entry kind_sorted plain_sorted entry_sorted (args_sorted1 _) ?_
  unfold Builtin.«sorted»
  refine wpAny_bind (m := checkCount "sorted" 1 1 _) (wpAny_pure ?_)
  refine wpAny_bind (L2.collect_set (A := A.in1) hh ⟨o, ho, hex.1, hd⟩ hf hb hr hl fun s1 vs k1 hz g1 o1 pv => ?_)
  have lv : vs.length = xs.length := by rw [pv.length_eq, List.length_map, ← pm.length_eq, List.length_map]
  have sv : StrsAre vs (vs.map fun v => match v with | .str k _ => k | _ => "") := strs_rows vs _ (fun v hv => by
    obtain ⟨e, he, rfl⟩ := List.mem_map.mp (pv.mem_iff.mp hv)
    obtain ⟨k, tk, rfl⟩ := g e he
    exact ⟨k, tk, rfl⟩) rfl
  have pk : (vs.map fun v => match v with | .str k _ => k | _ => "").Perm xs := by
    have z := pv.map fun v => match v with | .str k _ => k | _ => ""
    rw [List.map_map] at z
    exact z.trans pm
  refine wpAny_bind (wpAny_newList ?_ (by rw [lv, sizeLine_eq]; omega))
  have atL : (s1.heap.push (seqObj "list" vs.toArray 0)).get? s1.heap.objs.size = some (seqObj "list" vs.toArray 0) := Heap.get?_push_size _ rfl
  refine wpAny_bind (wpAny_holding (wpAny_call_entry slot_list_sort ⟨_, atL, rfl⟩ entry_list_sort
    (list_sort_treeK strKind_oneLt atL sv.keysOf (fun v₁ v₂ rest e => keyKind_strs (by rw [← e]; exact sv)) (by rw [lv]; exact h64) fun st' hp hs => ⟨_, rfl, ?_⟩) (args_list_sort _)))
  obtain ⟨ys, y1, y2, y3⟩ := sorted_out_str sv hp hs
  obtain ⟨c, hc⟩ := sortedHeap_at (vs := vs) (out := (arrOf st').map (·.2)) atL
  refine wpAny_pure ⟨_, rfl, q _ s1.heap.objs.size _ c ys (fun b u e => ?_) g1 o1 hz hc y1 (y2.trans pk) y3⟩
  have z := k1 b u e
  have lt := Heap.lt_size z
  show (sortedHeap (s1.heap.push (seqObj "list" vs.toArray 0)) s1.heap.objs.size vs ((arrOf st').map (·.2))).get? b = some u
  rw [sortedHeap_old (Nat.ne_of_lt lt) (by rw [size_push']; exact Nat.lt_succ_of_lt lt)]
  exact Heap.get?_push_of_some _ z
end
/-- the set in the mirror heap -/
def StS (w : World) (a : Addr) (xs : List Str) : HO := .ext fun h => SetS w h a xs
theorem stS_ok {P : Program} {w : World} {H : Hp} {h : Heap} {a : Addr} {xs : List Str} (R : SetS w h a xs) : ObjOk P w H h a (StS w a xs) :=
  ⟨R, (let ⟨o, _, _, _, ⟨ho, _⟩, _⟩ := R; ⟨o, ho⟩), fun h1 h2 p k => SetS.at p k⟩
section
variable {X : Cx}
def rSetS (K : PySem.W.Frag) (w : World) : List V → Hp → VK → Prop := fun vs H Q => ∃ (l : Addr) (ns : List Str), vs = [V.ref l] ∧ SqL K H l (ns.map V.str) ∧ ns.length + 1 < scanBound ∧ ∀ a, H a = none → Q (.ref a) (upd H a (StS w a (setS ns)))
theorem cr_setS (hc : X.calm = true) : CallR X (.type "set") (rSetS X.K X.w) := by
  intro pins s σ H vs us Q I r h
  obtain ⟨l, ns, rfl, hl, hb, q⟩ := h
  rw [Vals.ref1 r]
  obtain ⟨its, rv, pl, _⟩ := I.list hl
  have hz : its.toArray.size = ns.length := by rw [List.size_toArray, ← rv.length, List.length_map]
  refine set_strs (P := X.prog) (w := X.w) ns (I.ok.hd hc) pl.isList hz (fun i v hv => ?_) hb fun h' tk R k => ?_
  · have lt : i < ns.length := by
      rw [← hz]
      exact (Array.getElem?_eq_some_iff.mp hv).1
    obtain ⟨u, hu, t, et⟩ := rv.get (i := i) (x := .str ns[i]) (by simp [lt])
    have ev : its[i]? = some v := by simpa using hv
    rw [hu] at ev
    exact ⟨ns[i], t, List.getElem?_eq_getElem lt, (Option.some.inj ev).symm.trans et⟩
  · exact ⟨.ref s.heap.objs.size, upd H s.heap.objs.size (StS X.w s.heap.objs.size (setS ns)), I.laid (t' := tk) k (Nat.le_refl _) (stS_ok R), rfl, q _ (I.hok.fresh (Nat.le_refl _))⟩
def rSortSS (w : World) : List V → Hp → VK → Prop := fun vs H Q => ∃ (a : Addr) (xs : List Str), vs = [V.ref a] ∧ H a = some (StS w a xs) ∧ xs.length < 64 ∧ ∀ (ys : List Str) (p : Addr), ys.Perm xs → sortedS ys = true → H p = none → Q (.ref p) (upd H p (.lst (ys.map V.str)))
theorem cr_sortSS (hc : X.calm = true) : CallR X (.builtin "sorted") (rSortSS X.w) := by
  intro pins s σ H vs us Q I r h
  obtain ⟨a, xs, rfl, ha, h64, q⟩ := h
  have R : SetS X.w s.heap a xs := (I.hok a _ ha).1
  rw [Vals.ref1 r]
  refine sorted_setS R (I.ok.hd hc) h64 fun s' p out c ys k g o hp hg hs pm so => ?_
  have few : (ys.map V.str).length ≤ sizeLine := by rw [List.length_map, pm.length_eq, sizeLine_eq]; omega
  have hn : H p = none := I.hok.fresh hp
  have J : Inv X pins σ (upd H p (.lst (ys.map V.str))) { s with heap := s'.heap, gens := s'.gens, drawn := s'.drawn, toks := s'.toks } :=
    I.call (ch := []) (Un.laid k hp hn) (I.hok.laid k hp ⟨few, out.toList, c, vals_of_strs hs, hg⟩) (by rw [g]; exact I.bare) (fun _ z => nomatch z)
  have e : s' = { s with heap := s'.heap, gens := s'.gens, drawn := s'.drawn, toks := s'.toks } := by
    cases s'
    cases s
    cases o
    rfl
  rw [e]
  exact ⟨.ref p, _, J, rfl, q ys p pm so hn⟩
def rLenSS (w : World) : List V → Hp → VK → Prop := fun vs H Q => ∃ (a : Addr) (xs : List Str), vs = [V.ref a] ∧ H a = some (StS w a xs) ∧ Q (.int (xs.length : Nat)) H
theorem cr_lenSS : CallR X (.builtin "len") (rLenSS X.w) := by
  intro pins s σ H vs us Q I r h
  obtain ⟨a, xs, rfl, ha, q⟩ := h
  obtain ⟨o, rs, ep, tb, ⟨ho, hex, hd⟩, _, pm, _, ⟨hb, hf⟩, _⟩ := (show SetS X.w s.heap a xs from (I.hok a _ ha).1)
  have e : rs.size = xs.length := by rw [← Array.length_toList, ← pm.length_eq, List.length_map]
  rw [Vals.ref1 r]
  have few : (rs.size : Int) < 2 ^ 63 := by
    unfold scanBound at hb
    omega
  exact call_len_set ho hex hd hf few ⟨.int (xs.length : Nat), H, I.tok _, ⟨_, by rw [e]⟩, q⟩
/-! the same, the frag and the world named -/
theorem cr_setSw {K : PySem.W.Frag} {w : World} (hK : X.K = K) (hw : X.w = w) (hc : X.calm = true) : CallR X (.type "set") (rSetS K w) := by
  subst hK
  subst hw
  exact cr_setS hc
theorem cr_sortSSw {w : World} (hw : X.w = w) (hc : X.calm = true) : CallR X (.builtin "sorted") (rSortSS w) := by
  subst hw
  exact cr_sortSS hc
theorem cr_lenSSw {w : World} (hw : X.w = w) : CallR X (.builtin "len") (rLenSS w) := by
  subst hw
  exact cr_lenSS
end
end UP

set_option Elab.async false
set_option linter.all false
set_option maxRecDepth 100000
set_option maxHeartbeats 4000000
set_option pp.maxSteps 600
namespace UP
open PySem PySem.Spec PyProof.Rows L2
theorem pe_glS {X : Cx} {x : Str} {z : Str} {pos : Pos} (h : ∃ t, X.mg x = some (.str z t)) (hg : Gl X x) (hd : (x == ("__debug__" : Str)) = false := by decide) : PE X (.Name x pos) (tC (.str z)) := by
  obtain ⟨t, h⟩ := h
  exact pe_glob hg h ⟨t, rfl⟩ hd
theorem inV_strsW (k : Str) (ks : List Str) : inV (.str k) (ks.map V.str) = decide (k ∈ ks) := by
  unfold inV
  rw [List.any_map]
  induction ks with
  | nil => rfl
  | cons x t ih =>
    rw [List.any_cons, ih]
    by_cases e : k = x
    · subst e
      simp [eqV]
    · have e2 : ¬ x = k := fun z => e z.symm
      simp [eqV, e, e2]
theorem flat_strsW (ks : List Str) : (ks.map V.str).all flatV = true := by
  rw [List.all_map, List.all_eq_true]
  intro k _
  rfl
theorem nodup_sub : ∀ (l B : List Str), l.Nodup → (∀ x ∈ l, x ∈ B) → l.length ≤ B.length
  | [], _, _, _ => Nat.zero_le _
  | x :: l, B, nd, sub => by
    obtain ⟨n1, n2⟩ := List.nodup_cons.mp nd
    have hx := sub x List.mem_cons_self
    have h1 := nodup_sub l (B.erase x) n2 fun y hy => (List.mem_erase_of_ne (fun e => n1 (by rw [← e]; exact hy))).mpr (sub y (List.mem_cons_of_mem _ hy))
    have h2 := List.length_erase_of_mem hx
    have h3 := List.length_pos_of_mem hx
    rw [List.length_cons]
    omega
theorem str_atW {l : List Str} {i : Nat} {x : V} (h : (l.map V.str)[i]? = some x) : ∃ k, l[i]? = some k ∧ x = .str k := by
  rw [List.getElem?_map] at h
  obtain ⟨k, ek, rfl⟩ := Option.map_eq_some_iff.mp h
  exact ⟨k, ek, rfl⟩
/-! ### a kind that does not come -/
theorem step_kind {F : Str → Prop} {s : Option Run} {x : Str} (hx : F x) (hs : ∀ r, s = some r → F r.1) : ∀ r, stepR s x 1 = some r → F r.1 := by
  intro r e
  cases s with
  | none =>
    cases e
    exact hx
  | some y =>
    have hy := hs y rfl
    by_cases c : y.1 = x
    · rw [step_same c] at e
      cases e
      exact hx
    · rw [step_other c] at e
      split at e
      · cases e
        exact hy
      · split at e
        · cases e
        · cases e
          exact hx
theorem stI_kind {F : Str → Prop} : ∀ (l : List Str) (s : Option Run), (∀ x ∈ l, F x) → (∀ r, s = some r → F r.1) → ∀ r, stI l s = some r → F r.1
  | [], _, _, hs => hs
  | x :: l, s, hl, hs => stI_kind l (stepR s x 1) (fun y hy => hl y (List.mem_cons_of_mem _ hy)) (step_kind (hl x List.mem_cons_self) hs)
theorem fx_free {k : Str} : ∀ (l : List Str) (n : Nat), k ∉ l → stI l (withR k n) = if l.length < n then withR k (((n - l.length : Nat)) : Int) else stI (l.drop n) none
  | [], 0, _ => rfl
  | [], n + 1, _ => (if_pos (Nat.succ_pos n)).symm
  | x :: l, 0, _ => by
    rw [if_neg (Nat.not_lt_zero _)]
    rfl
  | x :: l, n + 1, h => by
    have hx : ¬ x = k := fun e => h (by rw [e]; exact List.mem_cons_self)
    have ih := fx_free l n fun e => h (List.mem_cons_of_mem _ e)
    have e1 : stepR (withR k ((n + 1 : Nat) : Int)) x 1 = withR k (n : Int) := by
      rw [step_with (by omega) (fun z => by omega), if_neg hx]
      congr 1
      omega
    show stI l (stepR (withR k ((n + 1 : Nat) : Int)) x 1) = _
    rw [e1, ih, List.length_cons, List.drop_succ_cons]
    by_cases c : l.length < n
    · rw [if_pos c, if_pos (by omega), show n + 1 - (l.length + 1) = n - l.length by omega]
    · rw [if_neg c, if_neg (by omega)]
def EqK (A B : List Str) (k : Str) (n : Nat) : Prop := fxR A k (n : Int) = fxR B k (n : Int)
theorem free_no {B : List Str} {k : Str} (h : k ∉ B) {m n : Nat} (hm : 0 < m) : withR k (m : Int) ≠ stI (B.drop n) none := fun e => by
  rw [with_pos (by omega)] at e
  exact stI_kind (F := fun x => x ≠ k) (B.drop n) none (fun x hx z => h (by rw [← z]; exact List.mem_of_mem_drop hx)) (fun r z => by cases z) _ e.symm rfl
theorem with_num {k : Str} {a b : Nat} (ha : 0 < a) (hb : 0 < b) (e : withR k (a : Int) = withR k (b : Int)) : a = b := by
  rw [with_pos (by omega), with_pos (by omega)] at e
  have h : ((a : Nat) : Int) = ((b : Nat) : Int) := congrArg Prod.snd (Option.some.inj e)
  omega
theorem free_imp {A B : List Str} {k k' : Str} (h1 : k ∉ A) (h2 : k ∉ B) (h3 : k' ∉ A) (h4 : k' ∉ B) {n : Nat} (h : EqK A B k n) : EqK A B k' n := by
  unfold EqK fxR at h ⊢
  rw [fx_free A n h1, fx_free B n h2] at h
  rw [fx_free A n h3, fx_free B n h4]
  by_cases ca : A.length < n
  · rw [if_pos ca] at h ⊢
    by_cases cb : B.length < n
    · rw [if_pos cb] at h ⊢
      rw [with_num (by omega) (by omega) h]
    · rw [if_neg cb] at h
      exact absurd h (free_no h2 (by omega))
  · rw [if_neg ca] at h ⊢
    by_cases cb : B.length < n
    · rw [if_pos cb] at h
      exact absurd h.symm (free_no h1 (by omega))
    · rw [if_neg cb] at h ⊢
      exact h
/-- the same effects up to the greater length -/
def AllEq (A B : List Str) : Prop := ∀ (k : Str) (n : Nat), n ≤ max A.length B.length → EqK A B k n
theorem AllEq.of {A B : List Str} {o : Str} (ho : o ∉ A ∧ o ∉ B) (h1 : ∀ k, k ∈ A ++ B → ∀ n : Nat, n ≤ max A.length B.length → EqK A B k n) (h2 : ∀ n : Nat, n ≤ max A.length B.length → EqK A B o n) : AllEq A B := fun k n hn => by
  by_cases c : k ∈ A ++ B
  · exact h1 k c n hn
  · exact free_imp ho.1 ho.2 (fun z => c (List.mem_append_left _ z)) (fun z => c (List.mem_append_right _ z)) (h2 n hn)
theorem AllEq.symm {A B : List Str} (h : AllEq A B) : AllEq B A := fun k n hn => (h k n (by rw [Nat.max_comm]; exact hn)).symm
/-! ### another kind -/
def t3 (n : Nat) : Str := ⟨#[97, 97, 97 + n]⟩
theorem t3_nd : ((List.range 22).map t3).Nodup := by decide +kernel
theorem t3_ok : ∀ n : Fin 22, KindOk (t3 n.val) := by decide +kernel
def azS : Str := "abcdefghijklmnopqrstuvwxyz"
section
variable {P : Program} {w : World} {K : PySem.W.Frag} {mg : Str → Option Value} {base : Heap}
/-! three_letters: slots 0:number -/
abbrev s_three_letters : Stmt := topS 54
theorem sc_three_letters : FnScope ["number"] ["number"] (defScope s_three_letters) := ⟨rfl, rfl, rfl, by decide +kernel, rfl, by decide +kernel, by decide +kernel⟩
def sp_three_letters : Sp := fun vs H Q _ => ∃ n : Nat, vs = [.int n] ∧ n ≤ 21 ∧ Q (.str (t3 n)) H
theorem ok_three_letters (D : Df K mg "three_letters" s_three_letters) (T : Tx mg) : Has P w K mg base 1 "three_letters" ["number"] sp_three_letters := by
  refine has_of D sc_three_letters (fun _ _ _ _ _ _ us hl => match us, hl with | [_], _ => rfl) (fun vs H Q E h => ?_) (fun f cdv A outer s₀ H vs Q E hr h => ?_)
  · obtain ⟨_, rfl, _⟩ := h
    rfl
  · obtain ⟨n, rfl, hn, q⟩ := h
    refine ⟨_, (pss_one (ps_ret (pe_op op_add_str (pe_op op_add_str (pe_ix ix_str (pe_glS T.s_LETTERS (by rfl)) (pe_op op_fdivW (pv 0) pe_int) (fun _ _ => rfl)) (pe_ix ix_str (pe_glS T.s_LETTERS (by rfl)) (pe_op op_mod (pe_op op_fdivW (pv 0) pe_int) pe_int) (fun _ _ => rfl))) (pe_ix ix_str (pe_glS T.s_LETTERS (by rfl)) (pe_op op_mod (pv 0) pe_int) (fun _ _ => rfl))))), ?_⟩
    have e1 : (n : Int) / 676 = 0 := by omega
    have e2 : (n : Int) / 26 % 26 = 0 := by omega
    have e3 : (n : Int) % 26 = n := by omega
    have at0 : atI azS.cps.toList 0 = some 97 := by decide +kernel
    have atn : atI azS.cps.toList (n : Int) = some (97 + n) := atI_ofR (by omega) (by
      rw [Int.toNat_natCast]
      have h : ∀ m : Fin 22, azS.cps.toList[m.val]? = some (97 + m.val) := by decide +kernel
      exact h ⟨n, by omega⟩)
    have small : azS.length ≤ sizeLine := by decide +kernel
    refine ⟨_, rfl, _, _, rfl, rfl, ⟨by decide, by decide +kernel⟩, azS, _, 97, rfl, rfl, small, by rw [e1]; exact at0, ?_⟩
    refine ⟨_, rfl, _, _, rfl, rfl, ⟨by decide, by decide +kernel⟩, _, _, rfl, rfl, (by show (0 : Int) < 26; decide), azS, _, 97, rfl, rfl, small, by rw [e2]; exact at0, _, _, rfl, rfl, by show 1 + 1 ≤ sizeLine; decide, ?_⟩
    refine ⟨_, rfl, _, _, rfl, rfl, (by show (0 : Int) < 26; decide), azS, _, 97 + n, rfl, rfl, small, by rw [e3]; exact atn, _, _, rfl, rfl, by show 2 + 1 ≤ sizeLine; decide, ?_⟩
    exact q
/-! other_kind: slots 0:kinds 1:number -/
abbrev s_other_kind : Stmt := topS 53
theorem sc_other_kind : FnScope ["kinds", "number"] ["kinds"] (defScope s_other_kind) := ⟨rfl, rfl, rfl, by decide +kernel, rfl, by decide +kernel, by decide +kernel⟩
def sp_other_kind : Sp := fun vs H Q _ => ∃ (a : Addr) (ks : List Str), vs = [.ref a] ∧ H a = some (.lst (ks.map V.str)) ∧ ks.length ≤ 20 ∧ ∀ o, o ∉ ks → KindOk o → Q (.str o) H
theorem ok_other_kind (D : Df K mg "other_kind" s_other_kind) (G_three_letters : Has P w K mg base 1 "three_letters" ["number"] sp_three_letters) : Has P w K mg base 2 "other_kind" ["kinds"] sp_other_kind := by
  refine has_of D sc_other_kind (fun _ _ _ _ _ _ us hl => match us, hl with | [_], _ => rfl) (fun vs H Q E h => ?_) (fun f cdv A outer s₀ H vs Q E hr h => ?_)
  · obtain ⟨_, _, rfl, _⟩ := h
    rfl
  · obtain ⟨a, ks, rfl, ha, l20, q⟩ := h
    refine ⟨_, (pss_cons (ps_set (i := 1) sc_other_kind.nd rfl (by first | exact Or.inl rfl | exact Or.inr rfl) pe_int)
    (pss_cons (ps_while PassesOwn.never (pt_cmpR op_in_seq (pe_callH G_three_letters (hr.mono (by omega)) (by rfl) (pa_cons (pv 1) pa_nil)) (pv 0) (by with_unfolding_all rfl))
      (pss_one (ps_aug (i := 1) sc_other_kind.nd rfl (by first | exact Or.inl rfl | exact Or.inr rfl) pe_int ip_add)))
    (pss_one (ps_ret (pe_callH G_three_letters (hr.mono (by omega)) (by rfl) (pa_cons (pv 1) pa_nil)))))), ?_⟩
    refine ⟨fun m σ H' => ∃ n : Nat, σ = [some (.ref a), some (.int n)] ∧ H' = H ∧ m = 21 - n ∧ ∀ j < n, t3 j ∈ ks, ⟨_, 0, rfl, rfl, rfl, fun j hj => absurd hj (Nat.not_lt_zero _)⟩, fun m σ H' hP => ?_⟩
    obtain ⟨n, rfl, rfl, rfl, hn⟩ := hP
    have n20 : n ≤ 20 := by
      have h := nodup_sub ((List.range n).map t3) ks ?_ ?_
      · rw [List.length_map, List.length_range] at h
        omega
      · by_cases c : n ≤ 22
        · have e : (List.range n).map t3 = ((List.range 22).map t3).take n := by
            rw [← List.map_take, List.take_range, Nat.min_eq_left c]
          rw [e]
          exact t3_nd.sublist (List.take_sublist ..)
        · exfalso
          have h := nodup_sub ((List.range 22).map t3) ks t3_nd fun x hx => by
            obtain ⟨j, hj, rfl⟩ := List.mem_map.mp hx
            exact hn j (by have := List.mem_range.mp hj; omega)
          rw [List.length_map, List.length_range] at h
          omega
      · intro x hx
        obtain ⟨j, hj, rfl⟩ := List.mem_map.mp hx
        exact hn j (List.mem_range.mp hj)
    refine ⟨_, rfl, n, rfl, by omega, _, rfl, a, _, rfl, .inl (.of ha), rfl, flat_strsW ks, _, rfl, ?_⟩
    rw [show (if false = true then !inV (V.str (t3 n)) (ks.map V.str) else inV (V.str (t3 n)) (ks.map V.str)) = decide (t3 n ∈ ks) from inV_strsW _ _]
    by_cases c : t3 n ∈ ks
    · rw [decide_eq_true c]
      refine iteT ⟨fun σ' H'' => σ' = [some (.ref a), some (.int ((n : Int) + 1))] ∧ H'' = H', fun σ' H'' z => ⟨21 - (n + 1), by omega, n + 1, z.1, z.2, rfl, fun j hj => ?_⟩, ?_⟩
      · by_cases e : j = n
        · rw [e]
          exact c
        · exact hn j (by omega)
      · exact ⟨_, rfl, _, _, rfl, rfl, rfl, rfl⟩
    · rw [decide_eq_false c]
      exact iteF ⟨_, rfl, n, rfl, by omega, q _ c (t3_ok ⟨n, by omega⟩)⟩
/-! first_difference: slots 0:first 1:second 2:kinds 3:most 4:first_endings 5:second_endings 6:kind 7:effects 8:others 9:number -/
abbrev s_first_difference : Stmt := topS 55
theorem sc_first_difference : FnScope ["first", "second", "kinds", "most", "first_endings", "second_endings", "kind", "effects", "others", "number"] ["first", "second"] (defScope s_first_difference) := ⟨rfl, rfl, rfl, by decide +kernel, rfl, by decide +kernel, by decide +kernel⟩
def sp_first_difference : Sp := fun vs H Q _ => ∃ (a b : Addr) (A B : List Str), vs = [.ref a, .ref b] ∧ H a = some (.lst (A.map V.str)) ∧ H b = some (.lst (B.map V.str)) ∧ A.length ≤ 400 ∧ B.length ≤ 400 ∧ (∀ x ∈ A, KindOk x) ∧ (∀ x ∈ B, KindOk x) ∧ (setS (A ++ B)).length ≤ 20 ∧
  (∀ H' p v k (n : Nat), Same H H' → H p = none → H' p = some (.lst [v]) → StV H' v (withR k (n : Int)) → KindOk k → n ≤ max A.length B.length → ¬ EqK A B k n → Q (.ref p) H') ∧ ∀ H' p, Same H H' → H p = none → H' p = some (.lst []) → AllEq A B → Q (.ref p) H'
theorem ok_first_difference (D : Df K mg "first_difference" s_first_difference) (T : Tx mg) (G_endings_of : Has P w K mg base 2 "endings_of" ["items"] sp_endings_of) (G_effects_up_to : Has P w K mg base 2 "effects_up_to" ["items", "endings", "kind", "most"] sp_effects_up_to)
    (G_other_kind : Has P w K mg base 2 "other_kind" ["kinds"] sp_other_kind) (G_state_with : Has P w K mg base 1 "state_with" ["kind", "number"] sp_state_with) : Has P w K mg base 3 "first_difference" ["first", "second"] sp_first_difference := by
  refine has_of D sc_first_difference (fun _ _ _ _ _ _ us hl => match us, hl with | [_, _], _ => rfl) (fun vs H Q E h => ?_) (fun f cdv A outer s₀ H vs Q E hr h => ?_)
  · obtain ⟨_, _, _, _, rfl, _⟩ := h
    rfl
  · obtain ⟨a, b, A, B, rfl, ha, hb, lA, lB, okA, okB, s20, q1, q2⟩ := h
    refine ⟨_, (pss_cons (ps_set (i := 2) sc_first_difference.nd rfl (by first | exact Or.inl rfl | exact Or.inr rfl) (pe_callB (cr_sortSSw (w := w) rfl rfl) (by rfl) T.n_sorted (by decide +kernel) (pa_cons (pe_callTy (cr_setSw (K := K) (w := w) rfl rfl rfl) (by rfl) T.n_set (by decide +kernel) (pa_cons (pe_op op_cat (pv 0) (pv 1)) pa_nil)) pa_nil)))
    (pss_cons (ps_set (i := 3) sc_first_difference.nd rfl (by first | exact Or.inl rfl | exact Or.inr rfl) (pe_callB (call_max2 rfl) (by rfl) T.n_max (by decide +kernel) (pa_cons (pe_callB call_len_seq (by rfl) T.n_len (by decide +kernel) (pa_cons (pv 0) pa_nil)) (pa_cons (pe_callB call_len_seq (by rfl) T.n_len (by decide +kernel) (pa_cons (pv 1) pa_nil)) pa_nil))))
    (pss_cons (ps_set (i := 4) sc_first_difference.nd rfl (by first | exact Or.inl rfl | exact Or.inr rfl) (pe_callH G_endings_of (hr.mono (by omega)) (by rfl) (pa_cons (pv 0) pa_nil)))
    (pss_cons (ps_set (i := 5) sc_first_difference.nd rfl (by first | exact Or.inl rfl | exact Or.inr rfl) (pe_callH G_endings_of (hr.mono (by omega)) (by rfl) (pa_cons (pv 1) pa_nil)))
    (pss_cons (ps_for PassesOwn.never rfl (pi_list (pe_op op_cat (pv 2) (pe_lst (pa_cons (pe_callH G_other_kind (hr.mono (by omega)) (by rfl) (pa_cons (pv 2) pa_nil)) pa_nil)))) (pg_name (i := 6) sc_first_difference.nd rfl (by first | exact Or.inl rfl | exact Or.inr rfl))
      (pss_cons (ps_set (i := 7) sc_first_difference.nd rfl (by first | exact Or.inl rfl | exact Or.inr rfl) (pe_callH G_effects_up_to (hr.mono (by omega)) (by rfl) (pa_cons (pv 0) (pa_cons (pv 4) (pa_cons (pv 6) (pa_cons (pv 3) pa_nil))))))
    (pss_cons (ps_set (i := 8) sc_first_difference.nd rfl (by first | exact Or.inl rfl | exact Or.inr rfl) (pe_callH G_effects_up_to (hr.mono (by omega)) (by rfl) (pa_cons (pv 1) (pa_cons (pv 5) (pa_cons (pv 6) (pa_cons (pv 3) pa_nil))))))
    (pss_one (ps_for PassesOwn.never rfl (pi_range1 (by rfl) T.n_range (pa_cons (pe_op op_add (pv 3) pe_int) pa_nil)) (pg_name (i := 9) sc_first_difference.nd rfl (by first | exact Or.inl rfl | exact Or.inr rfl))
      (pss_one (ps_if (pt_cmpR (op_neD hr.units) (pe_ix ix_list (pv 7) (pv 9) (fun _ _ => rfl)) (pe_ix ix_list (pv 8) (pv 9) (fun _ _ => rfl)) (nomark _)) (pss_one (ps_ret (pe_lst (pa_cons (pe_callH G_state_with (hr.mono (by omega)) (by rfl) (pa_cons (pv 6) (pa_cons (pv 9) pa_nil))) pa_nil)))) pss_nil)))))))
    (pss_one (ps_ret (pe_lst pa_nil)))))))), ?_⟩
    refine ⟨_, rfl, _, rfl, a, b, _, _, rfl, rfl, ha, hb, smallE (by simp only [List.length_map]; omega), fun c nc => ?_⟩
    rw [← List.map_append]
    have sc := same_upd (o := .lst ((A ++ B).map V.str)) nc
    refine ⟨c, A ++ B, rfl, .of upd_same, (by show (A ++ B).length + 1 < 4096; rw [List.length_append]; omega), fun ps nps => ⟨ps, _, rfl, upd_same, by omega, fun ks pk pm so npk => ?_⟩⟩
    have s1 := sc.trans ((same_upd (o := StS w ps (setS (A ++ B))) nps).trans (same_upd (o := .lst (ks.map V.str)) npk))
    have hk : (upd (upd (upd H c (.lst ((A ++ B).map V.str))) ps (StS w ps (setS (A ++ B)))) pk (.lst (ks.map V.str))) pk = some (.lst (ks.map V.str)) := upd_same
    have ha1 := s1 _ _ ha
    have hb1 := s1 _ _ hb
    generalize upd (upd (upd H c (.lst ((A ++ B).map V.str))) ps (StS w ps (setS (A ++ B)))) pk (.lst (ks.map V.str)) = H1 at *
    have lks : ks.length ≤ 20 := by rw [pm.length_eq]; exact s20
    have memk : ∀ k, k ∈ ks ↔ k ∈ A ++ B := fun k => pm.mem_iff.trans setS_mem
    refine ⟨_, rfl, a, _, rfl, .inl (.of ha1), _, rfl, b, _, rfl, .inl (.of hb1), _, _, rfl, ?_⟩
    rw [List.length_map, List.length_map]
    have em : (if ((A.length : Nat) : Int) < ((B.length : Nat) : Int) then ((B.length : Nat) : Int) else ((A.length : Nat) : Int)) = ((max A.length B.length : Nat) : Int) := by
      split <;> omega
    rw [em]
    obtain ⟨M, eM⟩ : ∃ M, M = max A.length B.length := ⟨_, rfl⟩
    have mA : A.length ≤ M := by omega
    have mB : B.length ≤ M := by omega
    have m4 : M ≤ 400 := by omega
    rw [← eM]
    rw [← eM] at q1
    clear sc nc nps npk em
    refine ⟨_, rfl, a, A, rfl, ha1, lA, fun H2 ea xa s2 na hea hEa => ?_⟩
    refine ⟨_, rfl, b, B, rfl, s2 _ _ hb1, lB, fun H3 eb xb s3 nb heb hEb => ?_⟩
    have ends : ∀ {H' H'' : Hp} {xs : List V} {its : List Str}, Same H' H'' → EndL H' xs its 0 → EndL H'' xs its 0 := fun s h => ⟨h.1, fun m h1 h2 => by
      obtain ⟨v, e, sv⟩ := h.2 m h1 h2
      exact ⟨v, e, sv.same s⟩⟩
    have s13 := s2.trans s3
    have hk3 := s13 _ _ hk
    refine ⟨_, rfl, _, rfl, pk, ks, rfl, hk3, lks, fun o ho ko => ⟨(by show 1 ≤ sizeLine; decide), fun l nl => ?_⟩⟩
    have s4 := same_upd (o := .lst [.str o]) nl
    have hl4 : (upd H3 l (.lst [.str o])) l = some (.lst [.str o]) := upd_same
    refine ⟨pk, l, _, _, rfl, rfl, s4 _ _ hk3, hl4, smallE (by rw [List.length_map]; show ks.length + 1 ≤ _; omega), fun L nL => ?_⟩
    have eL : ks.map V.str ++ [V.str o] = (ks ++ [o]).map V.str := by rw [List.map_append]; rfl
    rw [eL]
    have s35 := s4.trans (same_upd (o := .lst ((ks ++ [o]).map V.str)) nL)
    have hL : (upd (upd H3 l (.lst [.str o])) L (.lst ((ks ++ [o]).map V.str))) L = some (.lst ((ks ++ [o]).map V.str)) := upd_same
    have ha5 := s35 _ _ (s13 _ _ ha1)
    have hb5 := s35 _ _ (s13 _ _ hb1)
    have hea5 := s35 _ _ (s3 _ _ hea)
    have heb5 := s35 _ _ heb
    have hEa5 := ends (s3.trans s35) hEa
    have hEb5 := ends s35 hEb
    have s05 : Same H _ := s1.trans (s13.trans s35)
    generalize upd (upd H3 l (.lst [.str o])) L (.lst ((ks ++ [o]).map V.str)) = H5 at *
    have kok : ∀ k ∈ ks ++ [o], KindOk k := fun k hk => by
      rcases List.mem_append.mp hk with z | z
      · rcases List.mem_append.mp ((memk k).mp z) with z | z
        · exact okA k z
        · exact okB k z
      · rw [List.mem_singleton.mp z]
        exact ko
    have oNo : o ∉ A ∧ o ∉ B := ⟨fun z => ho ((memk o).mpr (List.mem_append_left _ z)), fun z => ho ((memk o).mpr (List.mem_append_right _ z))⟩
    clear s4 hl4 s35 s13 s2 s3 hk hk3 ha1 hb1 hea heb hEa hEb nl nL s1 na nb
    refine ⟨L, rfl, ⟨_, .of hL⟩, for_list (K := K) (a := L) (xs := (ks ++ [o]).map V.str) (fun i σ H' => ∃ y6 y7 y8 y9, σ = [some (.ref a), some (.ref b), some (.ref pk), some (.int M), some (.ref ea), some (.ref eb), y6, y7, y8, y9] ∧ Same H5 H' ∧ ∀ k ∈ (ks ++ [o]).take i, ∀ n : Nat, n ≤ M → EqK A B k n)
      ⟨none, none, none, none, rfl, Same.refl _, fun k hk => by rw [List.take_zero] at hk; cases hk⟩ (fun i σ H' _ hP => ?_) (fun i x σ H6 ex hP => ?_) (fun σ H6 hP => ?_)⟩
    · obtain ⟨_, _, _, _, _, sm, _⟩ := hP
      exact .of (sm _ _ hL)
    · obtain ⟨y6, y7, y8, y9, rfl, sm, alle⟩ := hP
      obtain ⟨k, ek, rfl⟩ := str_atW ex
      have kk := kok k (List.mem_of_getElem? ek)
      refine ⟨_, rfl, _, rfl, _, rfl, _, rfl, a, ea, A, k, M, xa, rfl, sm _ _ ha5, sm _ _ hea5, ends sm hEa5, mA, m4, fun H7 p7 es s7 n7 h7 l7 v7 => ?_⟩
      have sm7 := sm.trans s7
      refine ⟨_, rfl, _, rfl, _, rfl, _, rfl, b, eb, B, k, M, xb, rfl, sm7 _ _ hb5, sm7 _ _ heb5, ends sm7 hEb5, mB, m4, fun H8 p8 fs s8 n8 h8 l8 v8 => ?_⟩
      have sm8 := sm7.trans s8
      obtain ⟨xs7, hx7, hp7⟩ := h7.same s8
      obtain ⟨xs8, hx8, hp8⟩ := h8
      have nfx : ∀ (X : List Str), (∀ x ∈ X, KindOk x) → ∀ m : Nat, StOk (fxR X k (m : Int)) := fun X hX m => stOk_stI X _ hX (ok_with kk (by omega))
      refine ⟨_, rfl, _, _, rfl, rfl, _, rfl, by omega, by omega, for_range (lo := 0) (n := _) (fun i2 σ H' => ∃ y9, σ = [some (.ref a), some (.ref b), some (.ref pk), some (.int M), some (.ref ea), some (.ref eb), some (.str k), some (.ref p7), some (.ref p8), y9] ∧ Same H8 H' ∧ ∀ m : Nat, m < i2 → EqK A B k m)
        ⟨_, rfl, Same.refl _, fun m hm => absurd hm (Nat.not_lt_zero _)⟩ (fun i2 σ H9 hi2 hP => ?_) (fun σ H9 hP => ?_)⟩
      · obtain ⟨y9, rfl, s9, eqs⟩ := hP
        have hi2 : i2 < M + 1 := by omega
        obtain ⟨x1, e1, g1⟩ := Paired.at' hp7 (v7 i2 hi2)
        obtain ⟨x2, e2, g2⟩ := Paired.at' hp8 (v8 i2 hi2)
        have at_ : ∀ {xs : List V} {x : V}, xs[i2]? = some x → atI xs (0 + (i2 : Int)) = some x := fun h => atI_ofR (by omega) (by rw [Int.zero_add, Int.toNat_natCast]; exact h)
        refine ⟨_, rfl, _, rfl, p7, _, _, _, rfl, rfl, .of (s9 _ _ hx7), at_ e1, _, rfl, _, rfl, p8, _, _, _, rfl, rfl, .of (s9 _ _ hx8), at_ e2, dOt (fxR A k (i2 : Int)), dOt (fxR B k (i2 : Int)), dp_o (g1.same s9), dp_o (g2.same s9), shaped_o (nfx A okA i2), shaped_o (nfx B okB i2), _, rfl, ?_⟩
        rw [eqv_o]
        by_cases c : fxR A k (i2 : Int) = fxR B k (i2 : Int)
        · rw [decide_eq_true c]
          refine iteF ⟨_, rfl, s9, fun m hm => ?_⟩
          by_cases e : m = i2
          · rw [e]
            exact c
          · exact eqs m (by omega)
        · rw [decide_eq_false c]
          refine iteT ⟨_, rfl, _, rfl, k, _, rfl, fun H10 v s10 hv => ⟨(by show 1 ≤ sizeLine; decide), fun r nr => ?_⟩⟩
          have sA : Same H5 H10 := (sm8.trans s9).trans s10
          rw [Int.zero_add] at hv
          exact q1 _ r v k i2 ((s05.trans sA).trans (same_upd nr)) ((s05.trans sA).free nr) upd_same (hv.same (same_upd nr)) kk (by omega) c
      · obtain ⟨y9, rfl, s9, eqs⟩ := hP
        refine ⟨_, _, _, _, rfl, sm8.trans s9, fun z hz n hn => ?_⟩
        rw [take_snoc ek] at hz
        rcases List.mem_append.mp hz with h | h
        · exact alle z h n hn
        · rw [List.mem_singleton.mp h]
          exact eqs n (by omega)
    · obtain ⟨y6, y7, y8, y9, rfl, sm, alle⟩ := hP
      rw [List.length_map, List.take_length] at alle
      refine ⟨Nat.zero_le _, fun r nr => ?_⟩
      rw [eM] at alle
      exact q2 _ r ((s05.trans sm).trans (same_upd nr)) ((s05.trans sm).free nr) upd_same (AllEq.of oNo (fun k hk => alle k (List.mem_append_left _ ((memk k).mpr hk))) (alle o (List.mem_append_right _ List.mem_cons_self)))
end
end UP

set_option Elab.async false
set_option linter.all false
set_option maxRecDepth 100000
set_option maxHeartbeats 4000000
set_option pp.maxSteps 600
namespace UP
open PySem PySem.Spec PyProof.Rows L2
-- Gb
/-! ### values of any form that a menu holds -/
inductive Dat where
  | non
  | bl (b : Bool)
  | int (n : Int)
  | str (z : Str)
  | dic
  | lst (l : List Dat)
  | tup (l : List Dat)
inductive Rp (H : Hp) : V → Dat → Prop where
  | non : Rp H .non .non
  | bl (b : Bool) : Rp H (.bl b) (.bl b)
  | int (n : Int) : Rp H (.int n) (.int n)
  | str (z : Str) : Rp H (.str z) (.str z)
  | dic {a : Addr} (e : H a = some (.dK [])) : Rp H (.ref a) .dic
  | lst {a : Addr} {xs : List V} {l : List Dat} (e : H a = some (.lst xs)) (h : Paired (Rp H) xs l) : Rp H (.ref a) (.lst l)
  | tup {a : Addr} {xs : List V} {l : List Dat} (e : H a = some (.tup xs)) (h : Paired (Rp H) xs l) : Rp H (.ref a) (.tup l)
theorem Rp.same {H H' : Hp} (s : Same H H') {v : V} {d : Dat} (h : Rp H v d) : Rp H' v d := by
  refine Rp.rec (motive_1 := fun v d _ => Rp H' v d) (motive_2 := fun xs l _ => Paired (Rp H') xs l) .non .bl .int .str ?_ ?_ ?_ .nil ?_ h
  · intro a e
    exact .dic (s _ _ e)
  · intro a xs l e _ ih
    exact .lst (s _ _ e) ih
  · intro a xs l e _ ih
    exact .tup (s _ _ e) ih
  · intro x y xs ys _ _ h1 h2
    exact .cons h1 h2
def Dat.isI : Dat → Bool
  | .int _ => true
  | _ => false
def Dat.inI (lo hi : Int) : Dat → Bool
  | .int n => decide (lo ≤ n ∧ n ≤ hi)
  | _ => false
/-- its parts, if it is a list or a tuple -/
def Dat.parts : Dat → Option (List Dat)
  | .lst l => some l
  | .tup l => some l
  | _ => none
def Dat.listed (d : Dat) (m : Int) : Bool := match d.parts with
  | some l => decide ((l.length : Int) ≤ m)
  | none => false
def Dat.couple (d : Dat) : Bool := match d.parts with
  | some l => decide (l.length = 2)
  | none => false
/-- the name of its type -/
def Dat.ty : Dat → String
  | .non => "NoneType"
  | .bl _ => "bool"
  | .int _ => "int"
  | .str _ => "str"
  | .dic => "dict"
  | .lst _ => "list"
  | .tup _ => "tuple"
theorem Rp.tyx {K : PySem.W.Frag} {H : Hp} {v : V} {d : Dat} (h : Rp H v d) : TyX K H v (.type d.ty) := by
  cases h with
  | non => exact .base .non
  | bl b => exact .base (.bl b)
  | int n => exact .base (.int n)
  | str z => exact .base (.str z)
  | dic e => exact .base (.dK e)
  | lst e _ => exact .base (.lst e)
  | tup e _ => exact .base (.tup e)
theorem Rp.noSeq {K : PySem.W.Frag} {H : Hp} {v : V} {d : Dat} (h : Rp H v d) (hd : d.parts = none) : ∃ t, TyX K H v t ∧ PySem.W.kitAny K t [.type "list", .type "tuple"] = some false := by
  cases h with
  | non => exact ⟨_, .base .non, kit_no (by decide +kernel) (by decide +kernel)⟩
  | bl b => exact ⟨_, .base (.bl b), kit_no (by decide +kernel) (by decide +kernel)⟩
  | int n => exact ⟨_, .base (.int n), kit_no (by decide +kernel) (by decide +kernel)⟩
  | str z => exact ⟨_, .base (.str z), kit_no (by decide +kernel) (by decide +kernel)⟩
  | dic e => exact ⟨_, .base (.dK e), kit_no (by decide +kernel) (by decide +kernel)⟩
  | lst e _ => cases hd
  | tup e _ => cases hd
theorem Rp.seq {H : Hp} {v : V} {d : Dat} (h : Rp H v d) {l : List Dat} (hd : d.parts = some l) : ∃ a xs, v = .ref a ∧ Sq2 H a xs ∧ Paired (Rp H) xs l := by
  cases h with
  | non => cases hd
  | bl b => cases hd
  | int n => cases hd
  | str z => cases hd
  | dic e => cases hd
  | lst e h => cases hd; exact ⟨_, _, rfl, .inl e, h⟩
  | tup e h => cases hd; exact ⟨_, _, rfl, .inr e, h⟩
theorem giP {b : Bool} {A B : Prop} (h : b = true) (x : A) : if b = true then A else B := by
  rw [if_pos h]
  exact x
theorem giN {b : Bool} {A B : Prop} (h : b = false) (x : B) : if b = true then A else B := by
  rw [if_neg (by rw [h]; decide)]
  exact x
section
variable {P : Program} {w : World} {K : PySem.W.Frag} {mg : Str → Option Value} {base : Heap}
def spD_is_whole : Sp := fun vs H Q _ => ∃ (v : V) (d : Dat), vs = [v] ∧ Rp H v d ∧ Q (.bl d.isI) H
theorem okD_is_whole (D : Df K mg "is_whole" s_is_whole) (T : Tx mg) : Has P w K mg base 1 "is_whole" ["value"] spD_is_whole := by
  refine has_of D sc_is_whole (fun _ _ _ _ _ _ us hl => match us, hl with | [_], _ => rfl) (fun vs H Q E h => ?_) (fun f cdv A outer s H vs Q E hr h => ?_)
  · obtain ⟨v, d, rfl, _⟩ := h
    rfl
  · obtain ⟨v, d, rfl, hv, q⟩ := h
    refine ⟨_, (pss_one (ps_ret (pe_and (pe_callB call_isi (by rfl) T.n_isinstance (by decide +kernel) (pa_cons (pv 0) (pa_cons (pe_bltn (v := .ty "int") (by rfl) T.n_int (by decide +kernel) rfl) pa_nil))) (pe_one (pe_not (pe_callB call_isi (by rfl) T.n_isinstance (by decide +kernel) (pa_cons (pv 0) (pa_cons (pe_bltn (v := .ty "bool") (by rfl) T.n_bool (by decide +kernel) rfl) pa_nil)))))))), ?_⟩
    cases hv with
    | int n => exact ⟨_, rfl, _, _, _, _, true, rfl, .ty "int", .base (.int n), kit_ty (by decide +kernel), true, rfl, iteT ⟨_, rfl, _, _, _, _, false, rfl, .ty "bool", .base (.int n), kit_ty (by decide +kernel), false, rfl, q⟩⟩
    | bl b => exact ⟨_, rfl, _, _, _, _, true, rfl, .ty "int", .base (.bl b), kit_ty (by decide +kernel), true, rfl, iteT ⟨_, rfl, _, _, _, _, true, rfl, .ty "bool", .base (.bl b), kit_ty (by decide +kernel), true, rfl, q⟩⟩
    | non => exact ⟨_, rfl, _, _, _, _, false, rfl, .ty "int", .base .non, kit_ty (by decide +kernel), false, rfl, iteF q⟩
    | str z => exact ⟨_, rfl, _, _, _, _, false, rfl, .ty "int", .base (.str z), kit_ty (by decide +kernel), false, rfl, iteF q⟩
    | dic e => exact ⟨_, rfl, _, _, _, _, false, rfl, .ty "int", .base (.dK e), kit_ty (by decide +kernel), false, rfl, iteF q⟩
    | lst e h => exact ⟨_, rfl, _, _, _, _, false, rfl, .ty "int", .base (.lst e), kit_ty (by decide +kernel), false, rfl, iteF q⟩
    | tup e h => exact ⟨_, rfl, _, _, _, _, false, rfl, .ty "int", .base (.tup e), kit_ty (by decide +kernel), false, rfl, iteF q⟩
def spD_is_within : Sp := fun vs H Q _ => ∃ (v : V) (d : Dat) (lo hi : Int), vs = [v, .int lo, .int hi] ∧ Rp H v d ∧ Q (.bl (d.inI lo hi)) H
theorem okD_is_within (D : Df K mg "is_within" s_is_within) (G_is_whole : Has P w K mg base 1 "is_whole" ["value"] spD_is_whole) : Has P w K mg base 2 "is_within" ["value", "low", "high"] spD_is_within := by
  refine has_of D sc_is_within (fun _ _ _ _ _ _ us hl => match us, hl with | [_, _, _], _ => rfl) (fun vs H Q E h => ?_) (fun f cdv A outer s H vs Q E hr h => ?_)
  · obtain ⟨v, d, lo, hi, rfl, _⟩ := h
    rfl
  · obtain ⟨v, d, lo, hi, rfl, hv, q⟩ := h
    refine ⟨_, (pss_one (ps_ret (pe_and (pe_callH G_is_whole (hr.mono (by omega)) (by rfl) (pa_cons (pv 0) pa_nil)) (pe_one (pe_chain op_le op_le (pv 1) (pv 0) (pv 2)))))), ?_⟩
    refine ⟨_, rfl, v, d, rfl, hv, d.isI, rfl, ?_⟩
    by_cases ci : d.isI = true
    · refine giP ci ?_
      cases hv with
      | int n =>
        refine ⟨_, rfl, _, rfl, _, _, rfl, rfl, _, rfl, ite2 (fun e => ?_) (fun e => ?_)⟩
        · have e := of_decide_eq_true e
          refine ⟨_, rfl, _, _, rfl, rfl, ?_⟩
          show Q (.bl (decide (n ≤ hi))) H
          rw [show decide (n ≤ hi) = (Dat.int n).inI lo hi by show _ = decide (lo ≤ n ∧ n ≤ hi); simp [e]]
          exact q
        · have e : ¬ lo ≤ n := fun z => e (decide_eq_true z)
          show Q (.bl false) H
          rw [show false = (Dat.int n).inI lo hi by show _ = decide (lo ≤ n ∧ n ≤ hi); simp [e]]
          exact q
      | _ => cases ci
    · refine giN (by simpa using ci) ?_
      have e : d.inI lo hi = false := by
        cases d with
        | int n => exact absurd rfl ci
        | _ => rfl
      rw [e] at q
      exact q
def spD_is_listed : Sp := fun vs H Q _ => ∃ (v : V) (d : Dat) (m : Int), vs = [v, .int m] ∧ Rp H v d ∧ ∀ H', Same H H' → Q (.bl (d.listed m)) H'
theorem okD_is_listed (D : Df K mg "is_listed" s_is_listed) (T : Tx mg) : Has P w K mg base 1 "is_listed" ["value", "most"] spD_is_listed := by
  refine has_of D sc_is_listed (fun _ _ _ _ _ _ us hl => match us, hl with | [_, _], _ => rfl) (fun vs H Q E h => ?_) (fun f cdv A outer s H vs Q E hr h => ?_)
  · obtain ⟨v, d, m, rfl, _⟩ := h
    rfl
  · obtain ⟨v, d, m, rfl, hv, q⟩ := h
    refine ⟨_, (pss_one (ps_ret (pe_and (pe_callB call_isiT (by rfl) T.n_isinstance (by decide +kernel) (pa_cons (pv 0) (pa_cons (pe_tup (pa_cons (pe_bltn (v := .ty "list") (by rfl) T.n_list (by decide +kernel) rfl) (pa_cons (pe_bltn (v := .ty "tuple") (by rfl) T.n_tuple (by decide +kernel) rfl) pa_nil))) pa_nil))) (pe_one (pe_cmpR op_le (pe_callB call_len_seq (by rfl) T.n_len (by decide +kernel) (pa_cons (pv 0) pa_nil)) (pv 1) (nomark _)))))), ?_⟩
    refine ⟨_, rfl, (by show 2 ≤ sizeLine; decide), fun t nt => ?_⟩
    have q := q _ (same_upd (o := .tup [.ty "list", .ty "tuple"]) nt)
    have hv := hv.same (same_upd (o := .tup [.ty "list", .ty "tuple"]) nt)
    cases hd : d.parts with
    | none =>
      obtain ⟨tv, h1, h2⟩ := hv.noSeq (K := K) hd
      refine ⟨_, t, _, _, _, false, rfl, upd_same, .cons (.ty "list") (.cons (.ty "tuple") .nil), h1, h2, false, rfl, iteF ?_⟩
      rw [show d.listed m = false by unfold Dat.listed; rw [hd]] at q
      exact q
    | some l =>
      obtain ⟨a, xs, rfl, hx, hp⟩ := hv.seq hd
      have ll : xs.length = l.length := Paired.len hp
      rw [show d.listed m = decide ((xs.length : Int) ≤ m) by unfold Dat.listed; rw [hd, ll]] at q
      rcases hx with hx | hx
      · refine ⟨_, t, _, _, _, true, rfl, upd_same, .cons (.ty "list") (.cons (.ty "tuple") .nil), .base (.lst hx), kit_lst, true, rfl, iteT ?_⟩
        exact ⟨_, rfl, _, _, rfl, .inl (.of hx), _, rfl, _, _, rfl, rfl, q⟩
      · refine ⟨_, t, _, _, _, true, rfl, upd_same, .cons (.ty "list") (.cons (.ty "tuple") .nil), .base (.tup hx), kit_tup, true, rfl, iteT ?_⟩
        exact ⟨_, rfl, _, _, rfl, .inr (.of hx), _, rfl, _, _, rfl, rfl, q⟩
def spD_is_couple : Sp := fun vs H Q _ => ∃ (v : V) (d : Dat), vs = [v] ∧ Rp H v d ∧ ∀ H', Same H H' → Q (.bl d.couple) H'
theorem okD_is_couple (D : Df K mg "is_couple" s_is_couple) (T : Tx mg) : Has P w K mg base 1 "is_couple" ["value"] spD_is_couple := by
  refine has_of D sc_is_couple (fun _ _ _ _ _ _ us hl => match us, hl with | [_], _ => rfl) (fun vs H Q E h => ?_) (fun f cdv A outer s H vs Q E hr h => ?_)
  · obtain ⟨v, d, rfl, _⟩ := h
    rfl
  · obtain ⟨v, d, rfl, hv, q⟩ := h
    refine ⟨_, (pss_one (ps_ret (pe_and (pe_callB call_isiT (by rfl) T.n_isinstance (by decide +kernel) (pa_cons (pv 0) (pa_cons (pe_tup (pa_cons (pe_bltn (v := .ty "list") (by rfl) T.n_list (by decide +kernel) rfl) (pa_cons (pe_bltn (v := .ty "tuple") (by rfl) T.n_tuple (by decide +kernel) rfl) pa_nil))) pa_nil))) (pe_one (pe_cmpR op_eq (pe_callB call_len_seq (by rfl) T.n_len (by decide +kernel) (pa_cons (pv 0) pa_nil)) pe_int (nomark _)))))), ?_⟩
    refine ⟨_, rfl, (by show 2 ≤ sizeLine; decide), fun t nt => ?_⟩
    have q := q _ (same_upd (o := .tup [.ty "list", .ty "tuple"]) nt)
    have hv := hv.same (same_upd (o := .tup [.ty "list", .ty "tuple"]) nt)
    cases hd : d.parts with
    | none =>
      obtain ⟨tv, h1, h2⟩ := hv.noSeq (K := K) hd
      refine ⟨_, t, _, _, _, false, rfl, upd_same, .cons (.ty "list") (.cons (.ty "tuple") .nil), h1, h2, false, rfl, iteF ?_⟩
      rw [show d.couple = false by unfold Dat.couple; rw [hd]] at q
      exact q
    | some l =>
      obtain ⟨a, xs, rfl, hx, hp⟩ := hv.seq hd
      have ll : xs.length = l.length := Paired.len hp
      have eb : decide (V.int (xs.length : Int) = V.int 2) = d.couple := by
        unfold Dat.couple
        rw [hd]
        show _ = decide (l.length = 2)
        rw [← ll]
        exact decide_eq_decide.mpr ⟨fun z => by have := V.int.inj z; omega, fun z => by rw [z]; rfl⟩
      rw [← eb] at q
      rcases hx with hx | hx
      · exact ⟨_, t, _, _, _, true, rfl, upd_same, .cons (.ty "list") (.cons (.ty "tuple") .nil), .base (.lst hx), kit_lst, true, rfl, iteT ⟨_, rfl, _, _, rfl, .inl (.of hx), rfl, q⟩⟩
      · exact ⟨_, t, _, _, _, true, rfl, upd_same, .cons (.ty "list") (.cons (.ty "tuple") .nil), .base (.tup hx), kit_tup, true, rfl, iteT ⟨_, rfl, _, _, rfl, .inr (.of hx), rfl, q⟩⟩
end
-- Gc
section
variable {X : Cx} {K : PySem.W.Frag}
end
/-! ### lists that grow -/
section
variable {P : Program} {w : World} {K : PySem.W.Frag} {mg : Str → Option Value} {base : Heap}
/-! ### what the functions say of such a value -/
def kindB (z : Str) : Bool := decide (1 ≤ (z.length : Int) ∧ (z.length : Int) ≤ 8) && z.cps.toList.all fun c => decide (97 ≤ c ∧ c ≤ 122)
def Dat.kind : Dat → Bool
  | .str z => kindB z
  | _ => false
/-- its text, if it is one, is not too long -/
def Dat.fit : Dat → Prop
  | .str z => z.length ≤ 4000
  | _ => True
def Dat.two (d : Dat) : Option (Dat × Dat) := match d.parts with
  | some [x, y] => some (x, y)
  | _ => none
def Dat.run (d : Dat) : Bool := match d.two with
  | some (x, y) => x.kind && y.inI 1 1000000000000000000000000000000
  | none => false
def Dat.pos : Dat → Bool
  | .int n => decide (1 ≤ n)
  | _ => false
def Dat.state (d : Dat) : Bool := match d with
  | .non => true
  | d => match d.two with
    | some (x, y) => x.kind && y.pos
    | none => false
def Dat.fit2 (d : Dat) : Prop := ∀ x y, d.two = some (x, y) → x.fit
theorem kitS {K : PySem.W.Frag} {H : Hp} {v : V} {d : Dat} (h : Rp H v d) (hn : ∀ z, d ≠ .str z) : ∃ t, TyX K H v t ∧ PySem.W.kitOne K t (.type "str") = some false := by
  cases h with
  | non => exact ⟨_, .base .non, kit_ty (by decide +kernel)⟩
  | bl b => exact ⟨_, .base (.bl b), kit_ty (by decide +kernel)⟩
  | int n => exact ⟨_, .base (.int n), kit_ty (by decide +kernel)⟩
  | str z => exact absurd rfl (hn z)
  | dic e => exact ⟨_, .base (.dK e), kit_ty (by decide +kernel)⟩
  | lst e _ => exact ⟨_, .base (.lst e), kit_ty (by decide +kernel)⟩
  | tup e _ => exact ⟨_, .base (.tup e), kit_ty (by decide +kernel)⟩
theorem all_map {α : Type} (l : List α) (f : α → Bool) : ((l.map f).all id) = l.all f := by
  induction l with
  | nil => rfl
  | cons x t ih => rw [List.map_cons, List.all_cons, List.all_cons, ih]; rfl
def spD_is_kind : Sp := fun vs H Q _ => ∃ (v : V) (d : Dat), vs = [v] ∧ Rp H v d ∧ d.fit ∧ ∀ H', Same H H' → Q (.bl d.kind) H'
theorem okD_is_kind (D : Df K mg "is_kind" s_is_kind) (T : Tx mg) : Has P w K mg base 1 "is_kind" ["value"] spD_is_kind := by
  refine has_of D sc_is_kind (fun _ _ _ _ _ _ us hl => match us, hl with | [_], _ => rfl) (fun vs H Q E h => ?_) (fun f cdv A outer s H vs Q E hr h => ?_)
  · obtain ⟨v, d, rfl, _⟩ := h
    rfl
  · obtain ⟨v, d, rfl, hv, fit, q⟩ := h
    refine ⟨_, (pss_cons (ps_if (PW.pt (pw_or (pt_not (pt_val (pe_callB call_isi (by rfl) T.n_isinstance (by decide +kernel) (pa_cons (pv 0) (pa_cons (pe_bltn (v := .ty "str") (by rfl) T.n_str (by decide +kernel) rfl) pa_nil))))) (pw_or1 (pt_not (pt_chain op_le op_le pe_int (pe_callB call_len_str (by rfl) T.n_len (by decide +kernel) (pa_cons (pv 0) pa_nil)) (pe_glI T.c_MAX_LETTERS (by rfl))))))) (pss_one (ps_ret pe_bl)) pss_nil)
    (pss_one (ps_ret (pe_callB (cr_all rfl) (by rfl) T.n_all (by decide +kernel) (pa_cons (pe_lc (own := [("letter", 1)]) rfl sc_is_kind.nd (pi_str (pv 0)) (blkOk_by (N := ["value", "letter"]) (sc := defScope s_is_kind) (by decide +kernel)) (fun _ _ _ _ _ => (pg_name (i := 1) sc_is_kind.nd rfl (by first | exact Or.inl rfl | exact Or.inr rfl))) (fun _ _ _ _ _ => pts_nil) (fun _ _ _ _ _ => (pe_chain op_le_str op_le_str pe_str (pv 1) pe_str))) pa_nil))))), ?_⟩
    by_cases hn : ∀ z, d ≠ .str z
    · obtain ⟨t, h1, h2⟩ := kitS (K := K) hv hn
      have e : d.kind = false := by
        cases d with
        | str z => exact absurd rfl (hn z)
        | _ => rfl
      rw [e] at q
      exact ⟨_, rfl, _, _, _, _, false, rfl, .ty "str", h1, h2, false, rfl, iteT (q H (Same.refl H))⟩
    have hn : ∃ z, d = .str z := by
      apply Classical.byContradiction
      intro c
      exact hn fun z e => c ⟨z, e⟩
    obtain ⟨z, rfl⟩ := hn
    cases hv
    have fit : z.length ≤ 4000 := fit
    refine ⟨_, rfl, _, _, _, _, true, rfl, .ty "str", .base (.str z), kit_ty (by decide +kernel), true, rfl, iteF ?_⟩
    have no : ¬ (1 ≤ (z.length : Int) ∧ (z.length : Int) ≤ 8) → (Dat.str z).kind = false := fun c => by
      show (decide _ && _) = false
      rw [decide_eq_false c]
      rfl
    refine ⟨_, rfl, z, rfl, smallE (by omega), _, _, rfl, rfl, _, rfl, ?_⟩
    by_cases c1 : (1 : Int) ≤ (z.length : Int)
    · refine iteP (decide_eq_true c1) ⟨_, _, rfl, rfl, _, rfl, ?_⟩
      by_cases c2 : (z.length : Int) ≤ 8
      · refine iteN ?_ ?_
        · show (!decide ((z.length : Int) ≤ 8)) = false
          rw [decide_eq_true c2]
          rfl
        refine ⟨_, rfl, z, rfl, fun L nL => lc_gen (n := z.cps.size) (fun i H' => Same H H' ∧ H' L = some (.lst (((z.cps.toList.take i).map fun c => decide (97 ≤ c ∧ c ≤ 122)).map V.bl))) ⟨same_upd nL, upd_same⟩ (fun i H' hi _ => hi) (fun H' _ => Nat.le_refl _) (fun i x H1 H2 hi p y => ?_) (fun H' p => ?_)⟩
        · obtain ⟨rfl, c, ec, rfl⟩ := y
          obtain ⟨sm, hL⟩ := p
          have ec' : z.cps.toList[i]? = some c := by
            rw [Array.getElem?_toList]
            exact ec
          have ea : ("a" : Str).cps.toList = [97] := by decide +kernel
          have ez : ("z" : Str).cps.toList = [122] := by decide +kernel
          have lim : (((z.cps.toList.take i).map fun c => decide (97 ≤ c ∧ c ≤ 122)).map V.bl).length < sizeLine := by
            simp only [List.length_map, List.length_take]
            exact small (by have : z.cps.size = z.length := rfl; omega)
          have put : ∀ b : Bool, b = decide (97 ≤ c ∧ c ≤ 122) → Same H (upd H2 L (.lst ((((z.cps.toList.take i).map fun c => decide (97 ≤ c ∧ c ≤ 122)).map V.bl) ++ [V.bl b]))) ∧ (upd H2 L (.lst ((((z.cps.toList.take i).map fun c => decide (97 ≤ c ∧ c ≤ 122)).map V.bl) ++ [V.bl b]))) L = some (.lst (((z.cps.toList.take (i + 1)).map fun c => decide (97 ≤ c ∧ c ≤ 122)).map V.bl)) := by
            intro b hb
            refine ⟨same_grow nL sm, ?_⟩
            rw [upd_same, take_snoc ec', List.map_append, List.map_append, hb]
            rfl
          have t1 : (!decide (([c] : List Nat) < ("a" : Str).cps.toList)) = decide (97 ≤ c) := by rw [ea, lex1]
          have t2 : (!decide ((("z" : Str).cps.toList) < ([c] : List Nat))) = decide (c ≤ 122) := by rw [ez, lex1]
          refine ⟨rfl, yesT ⟨_, rfl, _, _, rfl, rfl, _, rfl, ?_⟩⟩
          by_cases b1 : 97 ≤ c
          · refine iteP (t1.trans (decide_eq_true b1)) ⟨_, _, rfl, rfl, _, hL, lim, put _ ?_⟩
            exact t2.trans (decide_eq_decide.mpr ⟨fun z => ⟨b1, z⟩, fun z => z.2⟩)
          · refine iteN (t1.trans (decide_eq_false b1)) ⟨_, hL, lim, put _ ?_⟩
            exact (decide_eq_false (p := 97 ≤ c ∧ c ≤ 122) (fun z => b1 z.1)).symm
        · refine ⟨L, _, rfl, .of p.2, ?_⟩
          have e : (((z.cps.toList.take z.cps.size).map fun c => decide (97 ≤ c ∧ c ≤ 122)).all id) = (Dat.str z).kind := by
            rw [all_map, List.take_of_length_le (by rw [Array.length_toList]; exact Nat.le_refl _)]
            show _ = (decide _ && _)
            rw [decide_eq_true ⟨c1, c2⟩]
            rfl
          rw [e]
          exact q H' p.1
      · refine iteP ?_ ?_
        · show (!decide ((z.length : Int) ≤ 8)) = true
          rw [decide_eq_false c2]
          rfl
        rw [no fun k => c2 k.2] at q
        exact q H (Same.refl H)
    · rw [no fun k => c1 k.1] at q
      exact iteN (decide_eq_false c1) ⟨_, rfl, iteT (q H (Same.refl H))⟩
theorem Rp.two {H : Hp} {v : V} {d x y : Dat} (h : Rp H v d) (e : d.two = some (x, y)) : ∃ a vx vy, v = .ref a ∧ Sq2 H a [vx, vy] ∧ Rp H vx x ∧ Rp H vy y := by
  cases hp : d.parts with
  | none =>
    unfold Dat.two at e
    rw [hp] at e
    cases e
  | some l =>
    obtain ⟨a, xs, rfl, hx, hq⟩ := h.seq hp
    unfold Dat.two at e
    rw [hp] at e
    cases hq with
    | nil => cases e
    | cons h1 t1 =>
      cases t1 with
      | nil => cases e
      | cons h2 t2 =>
        cases t2 with
        | nil =>
          cases e
          exact ⟨a, _, _, rfl, hx, h1, h2⟩
        | cons h3 t3 => cases e
theorem couple_two {d : Dat} : d.couple = d.two.isSome := by
  unfold Dat.couple Dat.two
  cases d.parts with
  | none => rfl
  | some l =>
    match l with
    | [] => rfl
    | [x] => rfl
    | [x, y] => rfl
    | x :: y :: z :: t =>
      show decide ((x :: y :: z :: t).length = 2) = false
      exact decide_eq_false (by simp only [List.length_cons]; omega)
def spD_is_run : Sp := fun vs H Q _ => ∃ (v : V) (d : Dat), vs = [v] ∧ Rp H v d ∧ d.fit2 ∧ ∀ H', Same H H' → Q (.bl d.run) H'
theorem okD_is_run (D : Df K mg "is_run" s_is_run) (T : Tx mg) (G_is_couple : Has P w K mg base 1 "is_couple" ["value"] spD_is_couple) (G_is_kind : Has P w K mg base 1 "is_kind" ["value"] spD_is_kind) (G_is_within : Has P w K mg base 2 "is_within" ["value", "low", "high"] spD_is_within) :
    Has P w K mg base 3 "is_run" ["value"] spD_is_run := by
  refine has_of D sc_is_run (fun _ _ _ _ _ _ us hl => match us, hl with | [_], _ => rfl) (fun vs H Q E h => ?_) (fun f cdv A outer s H vs Q E hr h => ?_)
  · obtain ⟨v, d, rfl, _⟩ := h
    rfl
  · obtain ⟨v, d, rfl, hv, fit, q⟩ := h
    refine ⟨_, (pss_one (ps_ret (pe_and (pe_callH G_is_couple (hr.mono (by omega)) (by rfl) (pa_cons (pv 0) pa_nil)) (pe_and (pe_callH G_is_kind (hr.mono (by omega)) (by rfl) (pa_cons (pe_ix ix_seq (pv 0) pe_int (fun _ _ => rfl)) pa_nil)) (pe_one (pe_callH G_is_within (hr.mono (by omega)) (by rfl) (pa_cons (pe_ix ix_seq (pv 0) pe_int (fun _ _ => rfl)) (pa_cons pe_int (pa_cons (pe_glI T.c_MAX_COUNT (by rfl)) pa_nil))))))))), ?_⟩
    refine ⟨_, rfl, v, d, rfl, hv, fun H1 s1 => ⟨d.couple, rfl, ?_⟩⟩
    cases ht : d.two with
    | none =>
      have e1 : d.couple = false := by rw [couple_two, ht]; rfl
      have e2 : d.run = false := by unfold Dat.run; rw [ht]
      rw [e2] at q
      refine iteN e1 ?_
      exact q _ s1
    | some p =>
      obtain ⟨x, y⟩ := p
      have e1 : d.couple = true := by rw [couple_two, ht]; rfl
      have e2 : d.run = (x.kind && y.inI 1 1000000000000000000000000000000) := by unfold Dat.run; rw [ht]
      rw [e2] at q
      obtain ⟨a, vx, vy, rfl, hs, hx, hy⟩ := hv.two ht
      refine iteP e1 ?_
      refine ⟨_, rfl, ix0 (hs.same s1) ⟨vx, x, rfl, hx.same s1, fit x y ht, fun H2 s2 => ⟨x.kind, rfl, ?_⟩⟩⟩
      by_cases ck : x.kind = true
      · refine iteP ck ?_
        rw [ck] at q
        refine ⟨_, rfl, ix1 ((hs.same s1).same s2) ⟨vy, y, 1, _, rfl, hy.same (s1.trans s2), q _ (s1.trans s2)⟩⟩
      · have ck : x.kind = false := by simpa using ck
        refine iteN ck ?_
        rw [ck] at q
        exact q _ (s1.trans s2)
def spD_is_state : Sp := fun vs H Q _ => ∃ (v : V) (d : Dat), vs = [v] ∧ Rp H v d ∧ d.fit2 ∧ ∀ H', Same H H' → Q (.bl d.state) H'
theorem okD_is_state (D : Df K mg "is_state" s_is_state) (T : Tx mg) (G_is_couple : Has P w K mg base 1 "is_couple" ["value"] spD_is_couple) (G_is_kind : Has P w K mg base 1 "is_kind" ["value"] spD_is_kind) (G_is_whole : Has P w K mg base 1 "is_whole" ["value"] spD_is_whole) :
    Has P w K mg base 2 "is_state" ["value"] spD_is_state := by
  refine has_of D sc_is_state (fun _ _ _ _ _ _ us hl => match us, hl with | [_], _ => rfl) (fun vs H Q E h => ?_) (fun f cdv A outer s H vs Q E hr h => ?_)
  · obtain ⟨v, d, rfl, _⟩ := h
    rfl
  · obtain ⟨v, d, rfl, hv, fit, q⟩ := h
    refine ⟨_, (pss_cons (ps_if (pt_cmpR op_isN (pv 0) pe_non (nomark _)) (pss_one (ps_ret pe_bl)) pss_nil)
    (pss_one (ps_ret (pe_and (pe_callH G_is_couple (hr.mono (by omega)) (by rfl) (pa_cons (pv 0) pa_nil)) (pe_and (pe_callH G_is_kind (hr.mono (by omega)) (by rfl) (pa_cons (pe_ix ix_seq (pv 0) pe_int (fun _ _ => rfl)) pa_nil)) (pe_and (pe_callH G_is_whole (hr.mono (by omega)) (by rfl) (pa_cons (pe_ix ix_seq (pv 0) pe_int (fun _ _ => rfl)) pa_nil)) (pe_one (pe_cmpR op_ge (pe_ix ix_seq (pv 0) pe_int (fun _ _ => rfl)) pe_int (nomark _))))))))), ?_⟩
    by_cases dn : d = .non
    · subst dn
      cases hv
      exact ⟨_, rfl, rfl, _, rfl, iteP rfl (q H (Same.refl H))⟩
    have vn : decide (v = V.non) = false := by
      refine decide_eq_false fun z => dn ?_
      subst z
      cases hv
      rfl
    have e0 : d.state = match d.two with
      | some (x, y) => x.kind && y.pos
      | none => false := by
      cases d with
      | non => exact absurd rfl dn
      | _ => rfl
    refine ⟨_, rfl, rfl, _, rfl, iteN vn ?_⟩
    refine ⟨_, rfl, v, d, rfl, hv, fun H1 s1 => ⟨d.couple, rfl, ?_⟩⟩
    cases ht : d.two with
    | none =>
      have e1 : d.couple = false := by rw [couple_two, ht]; rfl
      rw [e0, ht] at q
      refine iteN e1 ?_
      exact q _ s1
    | some p =>
      obtain ⟨x, y⟩ := p
      have e1 : d.couple = true := by rw [couple_two, ht]; rfl
      rw [e0, ht] at q
      obtain ⟨a, vx, vy, rfl, hs, hx, hy⟩ := hv.two ht
      refine iteP e1 ?_
      refine ⟨_, rfl, ix0 (hs.same s1) ⟨vx, x, rfl, hx.same s1, fit x y ht, fun H2 s2 => ⟨x.kind, rfl, ?_⟩⟩⟩
      have s12 := s1.trans s2
      by_cases ck : x.kind = true
      · refine iteP ck ?_
        refine ⟨_, rfl, ix1 ((hs.same s1).same s2) ⟨vy, y, rfl, hy.same s12, y.isI, rfl, ?_⟩⟩
        have q := q _ s12
        rw [show (match some (x, y) with | some (x, y) => x.kind && y.pos | none => false) = y.pos by show (x.kind && y.pos) = y.pos; rw [ck]; rfl] at q
        by_cases ci : y.isI = true
        · refine iteP ci ?_
          cases hy with
          | int n =>
            exact ⟨_, rfl, ix1 ((hs.same s1).same s2) ⟨_, _, rfl, rfl, q⟩⟩
          | _ => cases ci
        · have ci : y.isI = false := by simpa using ci
          refine iteN ci ?_
          rw [show y.pos = false by cases y with | int n => cases ci | _ => rfl] at q
          exact q
      · have ck : x.kind = false := by simpa using ck
        refine iteN ck ?_
        have q := q _ s12
        rw [show (match some (x, y) with | some (x, y) => x.kind && y.pos | none => false) = false by show (x.kind && y.pos) = false; rw [ck]; rfl] at q
        exact q
end
-- Gd
/-- the kind of a run -/
def Dat.key (d : Dat) : Str := match d.two with
  | some (.str z, _) => z
  | _ => ""
def keyAt (l : List Dat) (i : Nat) : Str := match l[i]? with
  | some d => d.key
  | none => ""
def stepB (l : List Dat) (i : Nat) : Bool := !decide (V.str (keyAt l i) = V.str (keyAt l (i + 1)))
def Dat.seq (d : Dat) : Bool := match d.parts with
  | some l => decide ((l.length : Int) ≤ 400) && (l.all Dat.run && ((List.range (l.length - 1)).map (stepB l)).all id)
  | none => false
def Dat.fits (d : Dat) : Prop := ∀ l, d.parts = some l → l.length ≤ 100000 ∧ ∀ x ∈ l, x.fit2
theorem run_two {d : Dat} (h : d.run = true) : ∃ z y, d.two = some (.str z, y) ∧ d.key = z := by
  unfold Dat.run at h
  cases ht : d.two with
  | none => rw [ht] at h; cases h
  | some p =>
    obtain ⟨x, y⟩ := p
    rw [ht] at h
    have h : (x.kind && y.inI 1 1000000000000000000000000000000) = true := h
    cases x with
    | str z => exact ⟨z, y, rfl, by unfold Dat.key; rw [ht]⟩
    | _ => cases h
theorem range_snoc {α : Type} (f : Nat → α) (i : Nat) : (List.range (i + 1)).map f = (List.range i).map f ++ [f i] := by
  rw [List.range_succ, List.map_append]
  rfl
section
variable {P : Program} {w : World} {K : PySem.W.Frag} {mg : Str → Option Value} {base : Heap}
def spD_is_sequence : Sp := fun vs H Q _ => ∃ (v : V) (d : Dat), vs = [v] ∧ Rp H v d ∧ d.fits ∧ ∀ H', Same H H' → Q (.bl d.seq) H'
theorem okD_is_sequence (D : Df K mg "is_sequence" s_is_sequence) (T : Tx mg) (G_is_listed : Has P w K mg base 1 "is_listed" ["value", "most"] spD_is_listed) (G_is_run : Has P w K mg base 3 "is_run" ["value"] spD_is_run) :
    Has P w K mg base 4 "is_sequence" ["value"] spD_is_sequence := by
  refine has_of D sc_is_sequence (fun _ _ _ _ _ _ us hl => match us, hl with | [_], _ => rfl) (fun vs H Q E h => ?_) (fun f cdv A outer s H vs Q E hr h => ?_)
  · obtain ⟨v, r, rfl, _⟩ := h
    rfl
  · obtain ⟨v, d, rfl, hv, fit, q⟩ := h
    refine ⟨_, (pss_cons (ps_if (PW.pt (pw_or (pt_not (pt_val (pe_callH G_is_listed (hr.mono (by omega)) (by rfl) (pa_cons (pv 0) (pa_cons (pe_glI T.c_MAX_RUNS (by rfl)) pa_nil))))) (pw_or1 (pt_not (pt_val (pe_callB (cr_all rfl) (by rfl) T.n_all (by decide +kernel) (pa_cons (pe_lc (own := [("run", 1)]) rfl sc_is_sequence.nd (pi_seqV 0) (blkOk_by (N := ["value", "run", "following"]) (sc := defScope s_is_sequence) (by decide +kernel)) (fun _ _ _ _ _ => (pg_name (i := 1) sc_is_sequence.nd rfl (by first | exact Or.inl rfl | exact Or.inr rfl))) (fun _ _ _ _ _ => pts_nil) (fun _ _ _ _ _ => (pe_callH G_is_run (hr.mono (by omega)) (by rfl) (pa_cons (pv 1) pa_nil)))) pa_nil))))))) (pss_one (ps_ret pe_bl)) pss_nil)
    (pss_one (ps_ret (pe_callB (cr_all rfl) (by rfl) T.n_all (by decide +kernel) (pa_cons (pe_lc (own := [("run", 1), ("following", 2)]) rfl sc_is_sequence.nd (pi_zip1 (i := 0) (RZ.pi_zipA (by rfl) T.n_zip (pa_cons (pv 0) (pa_cons (pe_slice (SlR.or sl_list sl_tupA) (pv 0) (po_some pe_int) po_none) pa_nil))) (fun _ _ _ q => ⟨1, rfl, q⟩) (fun _ _ _ q => q)) (blkOk_by (N := ["value", "run", "following"]) (sc := defScope s_is_sequence) (by decide +kernel)) (fun _ _ _ _ _ => (pg_tupK (K := K) (n := 2) rfl rfl (pgs_cons (pg_name (i := 1) sc_is_sequence.nd rfl (by first | exact Or.inl rfl | exact Or.inr rfl)) (pgs_cons (pg_name (i := 2) sc_is_sequence.nd rfl (by first | exact Or.inl rfl | exact Or.inr rfl)) pgs_nil)))) (fun _ _ _ _ _ => pts_nil) (fun _ _ _ _ _ => (pe_cmpR op_ne (pe_ix (ix_seqK (K := K) rfl) (pv 1) pe_int (fun _ _ => rfl)) (pe_ix (ix_seqK (K := K) rfl) (pv 2) pe_int (fun _ _ => rfl)) (nomark _)))) pa_nil))))), ?_⟩
    refine ⟨_, rfl, v, d, 400, rfl, hv, fun H1 s1 => ⟨_, rfl, ?_⟩⟩
    by_cases cl : d.listed 400 = true
    · refine iteN (by rw [cl]; rfl) ?_
      obtain ⟨l, hd⟩ : ∃ l, d.parts = some l := by
        cases hp : d.parts with
        | some l => exact ⟨l, rfl⟩
        | none =>
          unfold Dat.listed at cl
          rw [hp] at cl
          cases cl
      obtain ⟨a, xs, rfl, hx, hp⟩ := hv.seq hd
      have lx : xs.length = l.length := Paired.len hp
      obtain ⟨l5, fit⟩ := fit l hd
      have l4 : (l.length : Int) ≤ 400 := by
        unfold Dat.listed at cl
        rw [hd] at cl
        exact of_decide_eq_true cl
      have e0 : d.seq = (l.all Dat.run && ((List.range (l.length - 1)).map (stepB l)).all id) := by
        unfold Dat.seq
        rw [hd]
        show (decide _ && _) = _
        rw [decide_eq_true l4]
        rfl
      rw [e0] at q
      refine ⟨a, xs, rfl, hx.same s1, fun J wk L nL => lc_wk wk (fun i H' => Same H1 H' ∧ H' L = some (.lst (((l.take i).map Dat.run).map V.bl))) (fun _ _ p => p.1) ⟨same_upd nL, upd_same⟩ (fun i x H2 ex p => ?_) (fun H2 p => ?_)⟩
      · obtain ⟨sm, hL⟩ := p
        obtain ⟨r, er, hr1⟩ := Paired.at hp ex
        have hi : i < xs.length := (List.getElem?_eq_some_iff.mp ex).1
        refine ⟨rfl, yesT ⟨_, rfl, x, r, rfl, hr1.same (s1.trans sm), fit r (List.mem_of_getElem? er), fun H3 s3 => ⟨_, s3 _ _ hL, ?_, same_grow nL (sm.trans s3), ?_⟩⟩⟩
        · simp only [List.length_map, List.length_take]
          exact small (by omega)
        · rw [upd_same, take_snoc er, List.map_append, List.map_append]
          rfl
      · rw [lx, List.take_length] at p
        refine ⟨L, _, rfl, .of p.2, _, rfl, ?_⟩
        rw [all_map]
        have s2 : Same H H2 := s1.trans p.1
        by_cases ca : l.all Dat.run = true
        · rw [ca] at q
          refine iteN (by rw [ca]; rfl) ?_
          have rok : ∀ (i : Nat) (x : Dat), l[i]? = some x → x.run = true := fun i x h => List.all_eq_true.mp ca x (List.mem_of_getElem? h)
          refine ⟨a, xs, rfl, hx.same s2, fun J Hc sc wk M nM => ?_⟩
          have sA : Same H Hc := s2.trans sc
          refine lc_gen (n := xs.length - 1) (fun i H' => Same Hc H' ∧ H' M = some (.lst (((List.range i).map (stepB l)).map V.bl))) ⟨same_upd nM, upd_same⟩ (fun i H' hi p => wk.go i H' p.1 (by omega)) (fun H' p => wk.stop H' p.1) (fun i x H3 H4 hi p y => ?_) (fun H' p => ?_)
          · obtain ⟨T', x1, x2, rfl, nT, rfl, g1, g2⟩ := wk.yld i x H3 H4 p.1 y
            obtain ⟨sm, hM⟩ := p
            have g2 := g2 (by omega)
            have sB : Same H H3 := sA.trans sm
            obtain ⟨r1, e1, v1⟩ := Paired.at hp g1
            obtain ⟨r2, e2, v2⟩ := Paired.at hp g2
            obtain ⟨z1, y1, t1, k1⟩ := run_two (rok _ _ e1)
            obtain ⟨z2, y2, t2, k2⟩ := run_two (rok _ _ e2)
            obtain ⟨a1, u1, u1', rfl, w1, m1, _⟩ := (v1.same (sB.trans (same_upd (o := .tup [x1, x2]) nT))).two t1
            obtain ⟨a2, u2, u2', rfl, w2, m2, _⟩ := (v2.same (sB.trans (same_upd (o := .tup [_, x2]) nT))).two t2
            cases m1
            cases m2
            refine ⟨T', _, rfl, .of upd_same, rfl, _, _, rfl, _, _, rfl, rfl, rfl, yesT ?_⟩
            refine ⟨_, rfl, ix0 w1 ⟨_, rfl, ix0 w2 ⟨rfl, _, same_upd nT _ _ hM, ?_, same_grow nM (sm.trans (same_upd nT)), ?_⟩⟩⟩
            · simp only [List.length_map, List.length_range]
              exact small (by omega)
            · rw [upd_same, range_snoc, List.map_append]
              have eb : stepB l i = !decide (V.str z1 = V.str z2) := by
                unfold stepB keyAt
                rw [e1, e2]
                show (!decide (V.str r1.key = V.str r2.key)) = _
                rw [k1, k2]
              rw [← eb]
              rfl
          · refine ⟨M, _, rfl, .of p.2, ?_⟩
            rw [lx]
            exact q _ (sA.trans p.1)
        · have ca : l.all Dat.run = false := by simpa using ca
          rw [ca] at q
          exact iteP (by rw [ca]; rfl) (q _ s2)
    · have cl : d.listed 400 = false := by simpa using cl
      have e0 : d.seq = false := by
        unfold Dat.listed at cl
        unfold Dat.seq
        cases hp : d.parts with
        | none => rfl
        | some l =>
          rw [hp] at cl
          have cl : decide ((l.length : Int) ≤ 400) = false := cl
          show (decide _ && _) = false
          rw [cl]
          rfl
      rw [e0] at q
      exact iteP (by rw [cl]; rfl) (q _ s1)
end
-- Ge
/-! ### functions that may raise -/
section
variable (P : Program) (w : World) (K : PySem.W.Frag) (mg : Str → Option Value) (base : Heap)
def HasX (k : Nat) (x : Str) (ps : List Str) (sp : Sp) : Prop :=
  ∃ f fd, mg x = some (.ref f) ∧ PySem.W.keepIn K (.ref f) = true ∧ Binds K fd ps [] ∧ FnOk P w K mg base (L2.CX P w) k f fd ps sp
end
/-- the class x of errors stands at C -/
structure Ex (K : PySem.W.Frag) (mg : Str → Option Value) (x : Str) (C : Addr) : Prop where
  g : mg x = some (.ref C)
  x : PySem.W.excIn K C [.type "ValueError", .type "Exception", .type "BaseException", .type "object"] "ValueError.__new__" = true
  k : PySem.W.keepIn K (.ref C) = true
  b : PySem.W.subIn K (.ref C) (.type "BaseException") = some true
  t : PySem.W.typeIn K (.ref C) = some (.type "type")
/-! ### values that are runs, sequences, states -/
def Dat.rr (d : Dat) : Run := match d.two with
  | some (.str z, .int n) => (z, n)
  | _ => ("", 0)
def Dat.stt (d : Dat) : Option Run := match d with
  | .non => none
  | d => some d.rr
def Dat.runs (d : Dat) : List Run := match d.parts with
  | some l => l.map Dat.rr
  | none => []
theorem kind_ok {z : Str} (h : kindB z = true) : KindOk z := by
  unfold kindB at h
  have h := Bool.and_eq_true_iff.mp h
  have h1 := of_decide_eq_true h.1
  refine ⟨by omega, by omega, fun c hc => ?_⟩
  exact of_decide_eq_true (List.all_eq_true.mp h.2 c hc)
theorem run_str {d : Dat} (h : d.run = true) : ∃ z n, d.two = some (.str z, .int n) ∧ d.rr = (z, n) ∧ d.key = z ∧ KindOk z ∧ 1 ≤ n ∧ n ≤ 1000000000000000000000000000000 := by
  obtain ⟨z, y, ht, hk⟩ := run_two h
  unfold Dat.run at h
  rw [ht] at h
  have h := Bool.and_eq_true_iff.mp (show (kindB z && y.inI 1 1000000000000000000000000000000) = true from h)
  cases y with
  | int n =>
    have h2 : 1 ≤ n ∧ n ≤ 1000000000000000000000000000000 := of_decide_eq_true h.2
    exact ⟨z, n, ht, by unfold Dat.rr; rw [ht], hk, kind_ok h.1, h2.1, h2.2⟩
  | _ => cases h.2
theorem run_rp {H : Hp} {v : V} {d : Dat} (hv : Rp H v d) (h : d.run = true) : RunG H v d.rr ∧ RunOk d.rr := by
  obtain ⟨z, n, ht, hr, _, k, n1, n2⟩ := run_str h
  obtain ⟨a, vx, vy, rfl, hs, hx, hy⟩ := hv.two ht
  cases hx
  cases hy
  rw [hr]
  exact ⟨⟨a, rfl, hs⟩, k, n1, n2⟩
theorem seq_rp {H : Hp} {v : V} {d : Dat} (hv : Rp H v d) (h : d.seq = true) : RunsG H v d.runs ∧ SeqOk d.runs := by
  cases hd : d.parts with
  | none =>
    unfold Dat.seq at h
    rw [hd] at h
    cases h
  | some l =>
    unfold Dat.seq at h
    rw [hd] at h
    have h := Bool.and_eq_true_iff.mp (show (decide ((l.length : Int) ≤ 400) && (l.all Dat.run && ((List.range (l.length - 1)).map (stepB l)).all id)) = true from h)
    have h1 := of_decide_eq_true h.1
    have h2 := Bool.and_eq_true_iff.mp h.2
    have er : d.runs = l.map Dat.rr := by unfold Dat.runs; rw [hd]
    rw [er]
    obtain ⟨a, xs, rfl, hx, hp⟩ := hv.seq hd
    have ra : ∀ x ∈ l, x.run = true := fun x hx => List.all_eq_true.mp h2.1 x hx
    have pair : ∀ {xs : List V} {l : List Dat}, Paired (Rp H) xs l → (∀ x ∈ l, x.run = true) → Paired (RunG H) xs (l.map Dat.rr) := by
      intro xs l hp
      induction hp with
      | nil => intro _; exact .nil
      | cons h _ ih =>
        intro k
        exact .cons (run_rp h (k _ (List.mem_cons_self ..))).1 (ih fun x hx => k x (List.mem_cons_of_mem _ hx))
    refine ⟨⟨a, xs, rfl, hx, pair hp ra⟩, by rw [List.length_map]; omega, fun r hr => ?_, fun i x y ex ey => ?_⟩
    · obtain ⟨e, he, rfl⟩ := List.mem_map.mp hr
      obtain ⟨z, n, _, hr, _, k, n1, n2⟩ := run_str (ra e he)
      rw [hr]
      exact ⟨k, n1, n2⟩
    · rw [List.getElem?_map] at ex ey
      cases e1 : l[i]? with
      | none => rw [e1] at ex; cases ex
      | some p =>
        cases e2 : l[i + 1]? with
        | none => rw [e2] at ey; cases ey
        | some p2 =>
          rw [e1] at ex
          rw [e2] at ey
          cases ex
          cases ey
          have hi : i < l.length - 1 := by
            have := (List.getElem?_eq_some_iff.mp e2).1
            omega
          have st := List.all_eq_true.mp h2.2 (stepB l i) (List.mem_map.mpr ⟨i, List.mem_range.mpr hi, rfl⟩)
          obtain ⟨z1, n1, _, r1, k1, _⟩ := run_str (ra p (List.mem_of_getElem? e1))
          obtain ⟨z2, n2, _, r2, k2, _⟩ := run_str (ra p2 (List.mem_of_getElem? e2))
          unfold stepB keyAt at st
          rw [e1, e2] at st
          have st : (!decide (V.str p.key = V.str p2.key)) = true := st
          rw [k1, k2] at st
          rw [r1, r2]
          intro z
          have z : z1 = z2 := z
          rw [z, decide_eq_true rfl] at st
          cases st
theorem state_rp {H : Hp} {v : V} {d : Dat} (hv : Rp H v d) (h : d.state = true) : StG H v d.stt ∧ ∀ r, d.stt = some r → KindOk r.1 ∧ 1 ≤ r.2 := by
  by_cases dn : d = .non
  · subst dn
    cases hv
    exact ⟨rfl, fun r hr => by cases hr⟩
  have e0 : d.state = match d.two with
    | some (x, y) => x.kind && y.pos
    | none => false := by
    cases d with
    | non => exact absurd rfl dn
    | _ => rfl
  have e1 : d.stt = some d.rr := by
    cases d with
    | non => exact absurd rfl dn
    | _ => rfl
  rw [e0] at h
  rw [e1]
  cases ht : d.two with
  | none => rw [ht] at h; cases h
  | some p =>
    obtain ⟨x, y⟩ := p
    rw [ht] at h
    have h := Bool.and_eq_true_iff.mp (show (x.kind && y.pos) = true from h)
    obtain ⟨a, vx, vy, rfl, hs, hx, hy⟩ := hv.two ht
    cases hx with
    | str z =>
      cases hy with
      | int n =>
        have er : d.rr = (z, n) := by unfold Dat.rr; rw [ht]
        rw [er]
        exact ⟨⟨a, rfl, hs⟩, fun r hr => by cases hr; exact ⟨kind_ok h.1, of_decide_eq_true h.2⟩⟩
      | _ => cases h.2
    | _ => cases h.1
section
variable {P : Program} {w : World} {K : PySem.W.Frag} {mg : Str → Option Value} {base : Heap}
theorem hasX_of {x : Str} {st : Stmt} {ps N : List Str} {k : Nat} {sp : Sp} (D : Df K mg x st) (S : FnScope N ps (defScope st))
    (hb : ∀ (kV doc pm : Value) (an : Option Addr) (cdv ct : Value) (us : List Value), us.length = ps.length → bindArgs (PySem.W.fnOf x x (defArgs st) (defBody st) (defScope st) .none kV doc pm an cdv ct) ⟨us, []⟩ = pure (ps.zip us))
    (len : ∀ vs H Q E, sp vs H Q E → vs.length = ps.length)
    (body : ∀ (f : Addr) (cdv : Value) (A : Around) (outer : List Env) (s : Shared) (H : Hp) (vs : List V) (Q : VK) (E : XK), Room k (A.deeper (envOfC x (defScope st) s.heap.objs.size f cdv)) → sp vs H Q E →
      ∃ t, PSs (cxOf (L2.CX P w) P w K mg base N x (defScope st) f cdv A outer s H E) (defBody st) t ∧ t { nx := fun _ H' => Q .non H', rt := Q } (start N vs) H) :
    HasX P w K mg base (k + 1) x ps sp := by
  obtain ⟨f, fd, g, F⟩ := D
  exact ⟨f, fd, g, F.kp, F.binds hb, F.okX S len fun cdv A outer s H vs Q E hr h => body f cdv A outer s H vs Q E hr h⟩
def spX_checked_state (C : Addr) : Sp := fun vs H Q E => ∃ (v : V) (d : Dat), vs = [v] ∧ Rp H v d ∧ d.fit2 ∧ (d.state = true → ∀ H' v', Same H H' → StV H' v' d.stt → Q v' H') ∧ (d.state = false → ∀ H', Same H H' → E (.ref C) none H')
theorem okX_checked_state {C : Addr} (D : Df K mg "checked_state" s_checked_state) (T : Tx mg) (X1 : Ex K mg "InvalidState" C) (G_is_state : Has P w K mg base 2 "is_state" ["value"] spD_is_state) : HasX P w K mg base 3 "checked_state" ["state"] (spX_checked_state C) := by
  refine hasX_of D sc_checked_state (fun _ _ _ _ _ _ us hl => match us, hl with | [_], _ => rfl) (fun vs H Q E h => ?_) (fun f cdv A outer s H vs Q E hr h => ?_)
  · obtain ⟨v, r, rfl, _⟩ := h
    rfl
  · obtain ⟨v, d, rfl, hv, fit, q, qe⟩ := h
    refine ⟨_, (pss_cons (ps_if (pt_not (pt_val (pe_callH G_is_state (hr.mono (by omega)) (by rfl) (pa_cons (pv 0) pa_nil)))) (pss_one (ps_raise rfl (takes_of rfl rfl rfl rfl) (pmk_own PySem.F.excBase_ValueError X1.x X1.g X1.k (raises_own X1.b X1.t) (by exact rfl)))) pss_nil)
    (pss_one (ps_ret (pe_ifExp (pt_cmpR op_isN (pv 0) pe_non (nomark _)) pe_non (pe_callTy call_tuple_of (by rfl) T.n_tuple (by decide +kernel) (pa_cons (pv 0) pa_nil)))))), ?_⟩
    refine ⟨_, rfl, v, d, rfl, hv, fit, fun H1 s1 => ⟨_, rfl, ?_⟩⟩
    by_cases cs : d.state = true
    · refine iteN (by rw [cs]; rfl) ?_
      have hv1 := hv.same s1
      obtain ⟨hg, _⟩ := state_rp hv1 cs
      have q := q cs
      cases hst : d.stt with
      | none =>
        rw [hst] at hg q
        have hg : v = .non := hg
        subst hg
        exact ⟨_, rfl, rfl, _, rfl, iteP rfl (q H1 _ s1 rfl)⟩
      | some r =>
        rw [hst] at hg q
        obtain ⟨t, rfl, ht⟩ := hg
        refine ⟨_, rfl, rfl, _, rfl, iteN rfl ⟨_, rfl, t, [.str r.1, .int r.2], rfl, ?_⟩⟩
        rcases ht with z | z
        · exact .inl ⟨.of z, fun l nl => q _ _ (s1.trans (same_upd nl)) ⟨l, rfl, upd_same⟩⟩
        · exact .inr ⟨.of z, q H1 _ s1 ⟨t, rfl, z⟩⟩
    · have cs : d.state = false := by simpa using cs
      exact iteP (by rw [cs]; rfl) (qe cs _ s1)
end
-- Gf
section
variable {P : Program} {w : World} {K : PySem.W.Frag} {mg : Str → Option Value} {base : Heap}
def spX_checked_runs (C : Addr) : Sp := fun vs H Q E => ∃ (v : V) (d : Dat), vs = [v] ∧ Rp H v d ∧ d.fits ∧ (d.seq = true → ∀ H' p, Same H H' → H p = none → Runs H' p d.runs → Q (.ref p) H') ∧ (d.seq = false → ∀ H', Same H H' → E (.ref C) none H')
theorem okX_checked_runs {C : Addr} (D : Df K mg "checked_runs" s_checked_runs) (T : Tx mg) (X1 : Ex K mg "InvalidSequence" C) (G_is_sequence : Has P w K mg base 4 "is_sequence" ["value"] spD_is_sequence) :
    HasX P w K mg base 5 "checked_runs" ["sequence"] (spX_checked_runs C) := by
  refine hasX_of D sc_checked_runs (fun _ _ _ _ _ _ us hl => match us, hl with | [_], _ => rfl) (fun vs H Q E h => ?_) (fun f cdv A outer s H vs Q E hr h => ?_)
  · obtain ⟨v, r, rfl, _⟩ := h
    rfl
  · obtain ⟨v, d, rfl, hv, fit, q, qe⟩ := h
    refine ⟨_, (pss_cons (ps_if (pt_not (pt_val (pe_callH G_is_sequence (hr.mono (by omega)) (by rfl) (pa_cons (pv 0) pa_nil)))) (pss_one (ps_raise rfl (takes_of rfl rfl rfl rfl) (pmk_own PySem.F.excBase_ValueError X1.x X1.g X1.k (raises_own X1.b X1.t) (by exact rfl)))) pss_nil)
    (pss_one (ps_ret (pe_lc (own := [("kind", 1), ("count", 2)]) rfl sc_checked_runs.nd (pi_seqV 0) (blkOk_by (N := ["sequence", "kind", "count"]) (sc := defScope s_checked_runs) (by decide +kernel)) (fun _ _ _ _ _ => (pg_any (n := 2) rfl (pgs_cons (pg_name (i := 1) sc_checked_runs.nd rfl (by first | exact Or.inl rfl | exact Or.inr rfl)) (pgs_cons (pg_name (i := 2) sc_checked_runs.nd rfl (by first | exact Or.inl rfl | exact Or.inr rfl)) pgs_nil)))) (fun _ _ _ _ _ => pts_nil) (fun _ _ _ _ _ => (pe_tup (pa_cons (pv 1) (pa_cons (pv 2) pa_nil)))))))), ?_⟩
    refine ⟨_, rfl, v, d, rfl, hv, fit, fun H1 s1 => ⟨_, rfl, ?_⟩⟩
    by_cases cs : d.seq = true
    · refine iteN (by rw [cs]; rfl) ?_
      have q := q cs
      obtain ⟨hR, ok⟩ := seq_rp hv cs
      generalize d.runs = rs at *
      obtain ⟨a, xs, rfl, hx, hp⟩ := hR
      have lx : xs.length = rs.length := Paired.len hp
      refine ⟨a, xs, rfl, hx.same s1, fun J wk L nL => lc_wk wk (fun i H' => Same H1 H' ∧ ∃ ys, H' L = some (.lst ys) ∧ Paired (RunV H') ys (rs.take i)) (fun _ _ p => p.1) ⟨same_upd nL, [], upd_same, .nil⟩ (fun i x H2 ex p => ?_) (fun H2 p => ?_)⟩
      · obtain ⟨sm, ys, hL, hy⟩ := p
        obtain ⟨r, er, hr1⟩ := Paired.at hp ex
        have hi : i < xs.length := (List.getElem?_eq_some_iff.mp ex).1
        obtain ⟨t, rfl, ht⟩ := RunG.same (s1.trans sm) hr1
        refine ⟨t, _, rfl, ht, rfl, _, _, rfl, _, _, rfl, rfl, rfl, yesT ⟨_, rfl, _, rfl, (by show 2 ≤ sizeLine; decide), fun n nn => ⟨_, same_upd nn _ _ hL, ?_, same_grow nL (sm.trans (same_upd nn)), _, upd_same, ?_⟩⟩⟩
        · have := Paired.len hy
          rw [List.length_take] at this
          exact small (by have := ok.1; omega)
        · rw [take_snoc er]
          refine Paired.app (prs_grow (same_upd nn _ _ hL) (prs_same (same_upd nn) hy)) (.cons ?_ .nil)
          exact RunV.grow (same_upd nn _ _ hL) ⟨n, rfl, upd_same⟩
      · obtain ⟨sm, ys, hL, hy⟩ := p
        rw [lx, List.take_length] at hy
        exact q H2 L (s1.trans sm) (s1.free nL) ⟨ys, hL, hy⟩
    · have cs : d.seq = false := by simpa using cs
      exact iteP (by rw [cs]; rfl) (qe cs _ s1)
end
-- Kc
section
variable {P : Program} {w : World} {K : PySem.W.Frag} {mg : Str → Option Value} {base : Heap}
def spX_check_kind (C : Addr) : Sp := fun vs H Q E => ∃ (v : V) (d : Dat), vs = [v] ∧ Rp H v d ∧ d.fit ∧ (d.kind = true → ∀ H', Same H H' → Q .non H') ∧ (d.kind = false → ∀ H', Same H H' → E (.ref C) none H')
theorem okX_check_kind {C : Addr} (D : Df K mg "check_kind" s_check_kind) (X1 : Ex K mg "InvalidKind" C) (G_is_kind : Has P w K mg base 1 "is_kind" ["value"] spD_is_kind) : HasX P w K mg base 2 "check_kind" ["kind"] (spX_check_kind C) := by
  refine hasX_of D sc_check_kind (fun _ _ _ _ _ _ us hl => match us, hl with | [_], _ => rfl) (fun vs H Q E h => ?_) (fun f cdv A outer s H vs Q E hr h => ?_)
  · obtain ⟨v, r, rfl, _⟩ := h
    rfl
  · obtain ⟨v, d, rfl, hv, fit, q, qe⟩ := h
    refine ⟨_, (pss_one (ps_if (pt_not (pt_val (pe_callH G_is_kind (hr.mono (by omega)) (by rfl) (pa_cons (pv 0) pa_nil)))) (pss_one (ps_raise rfl (takes_of rfl rfl rfl rfl) (pmk_own PySem.F.excBase_ValueError X1.x X1.g X1.k (raises_own X1.b X1.t) (by exact rfl)))) pss_nil)), ?_⟩
    refine ⟨_, rfl, v, d, rfl, hv, fit, fun H1 s1 => ⟨_, rfl, ?_⟩⟩
    by_cases c : d.kind = true
    · exact iteN (by rw [c]; rfl) (q c _ s1)
    · have c : d.kind = false := by simpa using c
      exact iteP (by rw [c]; rfl) (qe c _ s1)
end
-- Kd
theorem Dat.ok {H : Hp} {v : V} {d : Dat} (hv : Rp H v d) (h : d.seq = true) : SeqOk d.runs := (seq_rp hv h).2
/-! ### lists of kinds, among all values -/
def Dat.sv : Dat → Str
  | .str z => z
  | _ => ""
def svAt (l : List Dat) (i : Nat) : Str := match l[i]? with
  | some d => d.sv
  | none => ""
def stepK (l : List Dat) (i : Nat) : Bool := decide ((svAt l i).cps.toList < (svAt l (i + 1)).cps.toList)
def Dat.kinds (d : Dat) : Bool := match d.parts with
  | some l => decide ((l.length : Int) ≤ 12) && (!decide (l.length = 0) && (l.all Dat.kind && ((List.range (l.length - 1)).map (stepK l)).all id))
  | none => false
def Dat.fitK (d : Dat) : Prop := ∀ l, d.parts = some l → l.length ≤ 100000 ∧ ∀ x ∈ l, x.fit
theorem kind_str {d : Dat} (h : d.kind = true) : ∃ z, d = .str z := by
  cases d with
  | str z => exact ⟨z, rfl⟩
  | _ => cases h
section
variable {P : Program} {w : World} {K : PySem.W.Frag} {mg : Str → Option Value} {base : Heap}
def spD_is_kinds : Sp := fun vs H Q _ => ∃ (v : V) (d : Dat), vs = [v] ∧ Rp H v d ∧ d.fitK ∧ ∀ H', Same H H' → Q (.bl d.kinds) H'
theorem okD_is_kinds (D : Df K mg "is_kinds" s_is_kinds) (T : Tx mg) (G_is_listed : Has P w K mg base 1 "is_listed" ["value", "most"] spD_is_listed) (G_is_kind : Has P w K mg base 1 "is_kind" ["value"] spD_is_kind) : Has P w K mg base 2 "is_kinds" ["value"] spD_is_kinds := by
  refine has_of D sc_is_kinds (fun _ _ _ _ _ _ us hl => match us, hl with | [_], _ => rfl) (fun vs H Q E h => ?_) (fun f cdv A outer s H vs Q E hr h => ?_)
  · obtain ⟨v, r, rfl, _⟩ := h
    rfl
  · obtain ⟨v, d, rfl, hv, fit, q⟩ := h
    refine ⟨_, (pss_cons (ps_if (PW.pt (pw_or (pt_not (pt_val (pe_callH G_is_listed (hr.mono (by omega)) (by rfl) (pa_cons (pv 0) (pa_cons (pe_glI T.c_MAX_KINDS (by rfl)) pa_nil))))) (pw_or (pt_cmpR op_eq (pe_callB call_len_seq (by rfl) T.n_len (by decide +kernel) (pa_cons (pv 0) pa_nil)) pe_int (nomark _)) (pw_or1 (pt_not (pt_val (pe_callB (cr_all rfl) (by rfl) T.n_all (by decide +kernel) (pa_cons (pe_lc (own := [("kind", 1)]) rfl sc_is_kinds.nd (pi_seqV 0) (blkOk_by (N := ["value", "kind", "following"]) (sc := defScope s_is_kinds) (by decide +kernel)) (fun _ _ _ _ _ => (pg_name (i := 1) sc_is_kinds.nd rfl (by first | exact Or.inl rfl | exact Or.inr rfl))) (fun _ _ _ _ _ => pts_nil) (fun _ _ _ _ _ => (pe_callH G_is_kind (hr.mono (by omega)) (by rfl) (pa_cons (pv 1) pa_nil)))) pa_nil)))))))) (pss_one (ps_ret pe_bl)) pss_nil)
    (pss_one (ps_ret (pe_callB (cr_all rfl) (by rfl) T.n_all (by decide +kernel) (pa_cons (pe_lc (own := [("kind", 1), ("following", 2)]) rfl sc_is_kinds.nd (pi_zip1 (i := 0) (RZ.pi_zipA (by rfl) T.n_zip (pa_cons (pv 0) (pa_cons (pe_slice (SlR.or sl_list sl_tupA) (pv 0) (po_some pe_int) po_none) pa_nil))) (fun _ _ _ q => ⟨1, rfl, q⟩) (fun _ _ _ q => q)) (blkOk_by (N := ["value", "kind", "following"]) (sc := defScope s_is_kinds) (by decide +kernel)) (fun _ _ _ _ _ => (pg_tupK (K := K) (n := 2) rfl rfl (pgs_cons (pg_name (i := 1) sc_is_kinds.nd rfl (by first | exact Or.inl rfl | exact Or.inr rfl)) (pgs_cons (pg_name (i := 2) sc_is_kinds.nd rfl (by first | exact Or.inl rfl | exact Or.inr rfl)) pgs_nil)))) (fun _ _ _ _ _ => pts_nil) (fun _ _ _ _ _ => (pe_cmpR op_lt_str (pv 1) (pv 2) (nomark _)))) pa_nil))))), ?_⟩
    refine ⟨_, rfl, v, d, 12, rfl, hv, fun H1 s1 => ⟨_, rfl, ?_⟩⟩
    by_cases cl : d.listed 12 = true
    · refine iteN (by rw [cl]; rfl) ?_
      obtain ⟨l, hd⟩ : ∃ l, d.parts = some l := by
        cases hp : d.parts with
        | some l => exact ⟨l, rfl⟩
        | none =>
          unfold Dat.listed at cl
          rw [hp] at cl
          cases cl
      obtain ⟨a, xs, rfl, hx, hp⟩ := hv.seq hd
      have lx : xs.length = l.length := Paired.len hp
      obtain ⟨l5, fit⟩ := fit l hd
      have l4 : (l.length : Int) ≤ 12 := by
        unfold Dat.listed at cl
        rw [hd] at cl
        exact of_decide_eq_true cl
      have e0 : d.kinds = (!decide (l.length = 0) && (l.all Dat.kind && ((List.range (l.length - 1)).map (stepK l)).all id)) := by
        unfold Dat.kinds
        rw [hd]
        show (decide _ && _) = _
        rw [decide_eq_true l4]
        rfl
      rw [e0] at q
      refine ⟨_, rfl, a, _, rfl, (hx.same s1).elim (fun z => .inl (.of z)) (fun z => .inr (.of z)), rfl, _, rfl, ?_⟩
      by_cases c0 : l.length = 0
      · rw [decide_eq_true c0] at q
        exact iteP (decide_eq_true (by rw [lx, c0]; rfl)) (q _ s1)
      rw [decide_eq_false c0] at q
      refine iteN (decide_eq_false fun z => c0 (by have := V.int.inj z; omega)) ?_
      refine ⟨a, xs, rfl, hx.same s1, fun J wk L nL => lc_wk wk (fun i H' => Same H1 H' ∧ H' L = some (.lst (((l.take i).map Dat.kind).map V.bl))) (fun _ _ p => p.1) ⟨same_upd nL, upd_same⟩ (fun i x H2 ex p => ?_) (fun H2 p => ?_)⟩
      · obtain ⟨sm, hL⟩ := p
        obtain ⟨r, er, hr1⟩ := Paired.at hp ex
        have hi : i < xs.length := (List.getElem?_eq_some_iff.mp ex).1
        refine ⟨rfl, yesT ⟨_, rfl, x, r, rfl, hr1.same (s1.trans sm), fit r (List.mem_of_getElem? er), fun H3 s3 => ⟨_, s3 _ _ hL, ?_, same_grow nL (sm.trans s3), ?_⟩⟩⟩
        · simp only [List.length_map, List.length_take]
          exact small (by omega)
        · rw [upd_same, take_snoc er, List.map_append, List.map_append]
          rfl
      · rw [lx, List.take_length] at p
        refine ⟨L, _, rfl, .of p.2, _, rfl, ?_⟩
        rw [all_map]
        have s2 : Same H H2 := s1.trans p.1
        by_cases ca : l.all Dat.kind = true
        · rw [ca] at q
          refine iteN (by rw [ca]; rfl) ?_
          have rok : ∀ (i : Nat) (x : Dat), l[i]? = some x → x.kind = true := fun i x h => List.all_eq_true.mp ca x (List.mem_of_getElem? h)
          refine ⟨a, xs, rfl, hx.same s2, fun J Hc sc wk M nM => ?_⟩
          have sA : Same H Hc := s2.trans sc
          refine lc_gen (n := xs.length - 1) (fun i H' => Same Hc H' ∧ H' M = some (.lst (((List.range i).map (stepK l)).map V.bl))) ⟨same_upd nM, upd_same⟩ (fun i H' hi p => wk.go i H' p.1 (by omega)) (fun H' p => wk.stop H' p.1) (fun i x H3 H4 hi p y => ?_) (fun H' p => ?_)
          · obtain ⟨T', x1, x2, rfl, nT, rfl, g1, g2⟩ := wk.yld i x H3 H4 p.1 y
            obtain ⟨sm, hM⟩ := p
            have g2 := g2 (by omega)
            obtain ⟨r1, e1, v1⟩ := Paired.at hp g1
            obtain ⟨r2, e2, v2⟩ := Paired.at hp g2
            obtain ⟨z1, rfl⟩ := kind_str (rok _ _ e1)
            obtain ⟨z2, rfl⟩ := kind_str (rok _ _ e2)
            cases v1
            cases v2
            refine ⟨T', _, rfl, .of upd_same, rfl, _, _, rfl, _, _, rfl, rfl, rfl, yesT ?_⟩
            refine ⟨_, rfl, _, rfl, _, _, rfl, rfl, _, same_upd nT _ _ hM, ?_, same_grow nM (sm.trans (same_upd nT)), ?_⟩
            · simp only [List.length_map, List.length_range]
              exact small (by omega)
            · rw [upd_same, range_snoc, List.map_append]
              have eb : stepK l i = decide (z1.cps.toList < z2.cps.toList) := by
                unfold stepK svAt
                rw [e1, e2]
                rfl
              rw [← eb]
              rfl
          · refine ⟨M, _, rfl, .of p.2, ?_⟩
            rw [lx]
            exact q _ (sA.trans p.1)
        · have ca : l.all Dat.kind = false := by simpa using ca
          rw [ca] at q
          exact iteP (by rw [ca]; rfl) (q _ s2)
    · have cl : d.listed 12 = false := by simpa using cl
      have e0 : d.kinds = false := by
        unfold Dat.listed at cl
        unfold Dat.kinds
        cases hp : d.parts with
        | none => rfl
        | some l =>
          rw [hp] at cl
          have cl : decide ((l.length : Int) ≤ 12) = false := cl
          show (decide _ && _) = false
          rw [cl]
          rfl
      rw [e0] at q
      exact iteP (by rw [cl]; rfl) (q _ s1)
def spX_check_kinds (C : Addr) : Sp := fun vs H Q E => ∃ (v : V) (d : Dat), vs = [v] ∧ Rp H v d ∧ d.fitK ∧ (d.kinds = true → ∀ H', Same H H' → Q .non H') ∧ (d.kinds = false → ∀ H', Same H H' → E (.ref C) none H')
theorem okX_check_kinds {C : Addr} (D : Df K mg "check_kinds" s_check_kinds) (X1 : Ex K mg "InvalidKinds" C) (G_is_kinds : Has P w K mg base 2 "is_kinds" ["value"] spD_is_kinds) : HasX P w K mg base 3 "check_kinds" ["kinds"] (spX_check_kinds C) := by
  refine hasX_of D sc_check_kinds (fun _ _ _ _ _ _ us hl => match us, hl with | [_], _ => rfl) (fun vs H Q E h => ?_) (fun f cdv A outer s H vs Q E hr h => ?_)
  · obtain ⟨v, r, rfl, _⟩ := h
    rfl
  · obtain ⟨v, d, rfl, hv, fit, q, qe⟩ := h
    refine ⟨_, (pss_one (ps_if (pt_not (pt_val (pe_callH G_is_kinds (hr.mono (by omega)) (by rfl) (pa_cons (pv 0) pa_nil)))) (pss_one (ps_raise rfl (takes_of rfl rfl rfl rfl) (pmk_own PySem.F.excBase_ValueError X1.x X1.g X1.k (raises_own X1.b X1.t) (by exact rfl)))) pss_nil)), ?_⟩
    refine ⟨_, rfl, v, d, rfl, hv, fit, fun H1 s1 => ⟨_, rfl, ?_⟩⟩
    by_cases c : d.kinds = true
    · exact iteN (by rw [c]; rfl) (q c _ s1)
    · have c : d.kinds = false := by simpa using c
      exact iteP (by rw [c]; rfl) (qe c _ s1)
end
end UP

set_option Elab.async false
set_option linter.all false
set_option maxRecDepth 100000
set_option maxHeartbeats 4000000
namespace UP
open PySem PySem.Spec PyProof.Rows L2
/-! ### repr of values that hold an empty dict -/
mutual
def Dat.py : Dat → PyData
  | .non => .none
  | .bl b => .bool b
  | .int n => .int n
  | .str z => .str z
  | .dic => .dict []
  | .lst l => .list (Dat.pys l)
  | .tup l => .tuple (Dat.pys l)
def Dat.pys : List Dat → List PyData
  | [] => []
  | x :: t => x.py :: Dat.pys t
end
def RpK (prog : Program) (w : World) (h : Heap) (u : Value) (d : PyData) : Prop :=
  (∃ as, Reads h u d as) ∧ (d.showable = true → d.shown.length ≤ sizeLine → ∃ bs, ReadAtMost h d.depth bs ∧ ReprK prog w bs h d.depth u d.shown)
def RpKs (prog : Program) (w : World) (h : Heap) (us : List Value) (ds : List PyData) : Prop :=
  (∃ as, ReadsAll h us ds as) ∧ (PyData.showableAll ds = true → (∀ t ∈ PyData.shownAll ds, t.length ≤ sizeLine) → ∃ bs, ReadAtMost h (PyData.depthAll ds) bs ∧ ReprAllK prog w bs h (PyData.depthAll ds) us (PyData.shownAll ds))
theorem dic_reads {X : Cx} {pins : List (Addr × Obj)} {σ : L2.St} {H : Hp} {s : Shared} {a : Addr} (I : Inv X pins σ H s) (e : H a = some (.dK [])) : ∃ o n, s.heap.get? a = some o ∧ o.cls = .type "dict" ∧ o.data = .dict #[] n ∧ (a == sysModules) = false := by
  obtain ⟨_, hs, vs, kv, o, es, ep, ho, ex, hd, _, hp, _⟩ := dk_of I.hok e
  cases kv
  obtain ⟨l⟩ := es
  have hp : Pairs (mixKind X.prog X.w) l [] := hp
  cases l with
  | nil => exact ⟨o, ep, ho, ex.1, hd, hs⟩
  | cons x t => cases hp
theorem RpKs.cons {prog : Program} {w : World} {h : Heap} {u : Value} {us : List Value} {d : PyData} {ds : List PyData} (h1 : RpK prog w h u d) (h2 : RpKs prog w h us ds) : RpKs prog w h (u :: us) (d :: ds) := by
  obtain ⟨⟨as, r⟩, k1⟩ := h1
  obtain ⟨⟨bs, rs⟩, k2⟩ := h2
  refine ⟨⟨_, .cons r rs⟩, fun hs hz => ?_⟩
  have hs' : d.showable = true ∧ PyData.showableAll ds = true := by simpa [PyData.showableAll] using hs
  obtain ⟨b1, hb1, k1⟩ := k1 hs'.1 (hz _ (by simp only [PyData.shownAll]; exact List.mem_cons_self ..))
  obtain ⟨b2, hb2, k2⟩ := k2 hs'.2 (fun t ht => hz t (by simp only [PyData.shownAll]; exact List.mem_cons_of_mem _ ht))
  refine ⟨b1 ++ b2, ?_, ?_⟩
  · simp only [PyData.depthAll]
    exact (hb1.mono (Nat.le_max_left _ _)).append (hb2.mono (Nat.le_max_right _ _))
  · simp only [PyData.depthAll, PyData.shownAll]
    exact .cons ((k1.more fun b hb => List.mem_append_left _ hb).level_le (Nat.le_max_left _ _)) (k2.more_le (fun b hb => List.mem_append_right _ hb) (Nat.le_max_right _ _))
theorem RpK.list {prog : Program} {w : World} {h : Heap} {a : Addr} {o : Obj} {its : List Value} {n : Nat} {ds : List PyData} (h1 : h.get? a = some o) (h2 : o.cls = .type "list") (h3 : o.data = .seq its.toArray n) (k : RpKs prog w h its ds) : RpK prog w h (.ref a) (.list ds) := by
  obtain ⟨⟨as, h4⟩, k⟩ := k
  have r : Reads h (.ref a) (.list ds) _ := .list h1 h2 h3 h4
  refine ⟨⟨_, r⟩, fun hs hz => ?_⟩
  have hz' : (listText (PyData.shownAll ds)).length ≤ sizeLine := by simpa only [PyData.shown] using hz
  obtain ⟨bs, hb, hk⟩ := k (by simpa [PyData.showable] using hs) (fun t ht => Nat.le_trans (listText_mem_le ht) hz')
  have hna : a ∉ bs := not_mem_of_deeper r (by simp only [PyData.depth]; omega) hb
  refine ⟨a :: bs, ReadAtMost.cons r (by simp only [PyData.depth]; omega) hb, ?_⟩
  simp only [PyData.depth, PyData.shown]
  cases its with
  | nil =>
    have h4' : ReadsAll h [] ds _ := h4
    cases h4'
    simp only [PyData.shownAll, listText_nil]
    exact ReprK.listEmpty h1 h2 h3
  | cons x l => exact ReprK.list h1 h2 h3 hna (by simpa using hk.length_eq) (fun i y e => hk.item i y (by simpa using e))
theorem RpK.tuple {prog : Program} {w : World} {h : Heap} {a : Addr} {o : Obj} {its : List Value} {n : Nat} {ds : List PyData} (h1 : h.get? a = some o) (h2 : o.cls = .type "tuple") (h3 : o.data = .seq its.toArray n) (k : RpKs prog w h its ds) : RpK prog w h (.ref a) (.tuple ds) := by
  obtain ⟨⟨as, h4⟩, k⟩ := k
  have r : Reads h (.ref a) (.tuple ds) _ := .tuple h1 h2 h3 h4
  refine ⟨⟨_, r⟩, fun hs hz => ?_⟩
  have hz' : (tupleText (PyData.shownAll ds)).length ≤ sizeLine := by simpa only [PyData.shown] using hz
  obtain ⟨bs, hb, hk⟩ := k (by simpa [PyData.showable] using hs) (fun t ht => Nat.le_trans (tupleText_mem_le ht) hz')
  have hna : a ∉ bs := not_mem_of_deeper r (by simp only [PyData.depth]; omega) hb
  refine ⟨a :: bs, ReadAtMost.cons r (by simp only [PyData.depth]; omega) hb, ?_⟩
  simp only [PyData.depth, PyData.shown]
  exact ReprK.tuple h1 h2 h3 hna hk
theorem RpK.dict {prog : Program} {w : World} {h : Heap} {a : Addr} {o : Obj} {n : Nat} (h1 : h.get? a = some o) (h2 : o.cls = .type "dict") (h3 : o.data = .dict #[] n) (hs : (a == sysModules) = false) : RpK prog w h (.ref a) (.dict []) := by
  have r : Reads h (.ref a) (.dict []) _ := .dict h1 h2 h3 .nil .nil
  refine ⟨⟨_, r⟩, fun _ _ => ⟨[a], ?_, ?_⟩⟩
  · intro b hb
    rw [List.mem_singleton.mp hb]
    exact ⟨_, _, r, Nat.le_refl _⟩
  · exact ReprK.dict h1 h2 h3 hs (fun z => by cases z) .nil
theorem Rp.reprK {X : Cx} {pins : List (Addr × Obj)} {σ : L2.St} {H : Hp} {s : Shared} (I : Inv X pins σ H s) {v : V} {d : Dat} (h : Rp H v d) : ∀ u, RelV v u → RpK X.prog X.w s.heap u d.py := by
  refine Rp.rec (motive_1 := fun v d _ => ∀ u, RelV v u → RpK X.prog X.w s.heap u d.py) (motive_2 := fun xs l _ => ∀ us, Vals xs us → RpKs X.prog X.w s.heap us (Dat.pys l)) ?_ ?_ ?_ ?_ ?_ ?_ ?_ ?_ ?_ h
  · intro u r
    cases r
    exact ⟨⟨_, .none⟩, fun hs hz => ReprK.of_reads .none hs (fun z => by cases z) hz⟩
  · intro b u r
    cases r
    exact ⟨⟨_, .bool b⟩, fun hs hz => ReprK.of_reads (.bool b) hs (fun z => by cases z) hz⟩
  · intro n u r
    obtain ⟨t, rfl⟩ := r
    exact ⟨⟨_, .int n t⟩, fun hs hz => ReprK.of_reads (.int n t) hs (fun z => by cases z) hz⟩
  · intro n u r
    obtain ⟨t, rfl⟩ := r
    exact ⟨⟨_, .str n t⟩, fun hs hz => ReprK.of_reads (.str n t) hs (fun z => by cases z) hz⟩
  · intro a e u r
    cases r
    obtain ⟨o, n, h1, h2, h3, h4⟩ := dic_reads I e
    exact RpK.dict h1 h2 h3 h4
  · intro a xs l e _ ih u r
    cases r
    obtain ⟨its, rv, ⟨o, n, ho, hc, _, hd⟩, _⟩ := I.list (SqL.of e)
    exact RpK.list ho hc hd (ih its rv)
  · intro a xs l e _ ih u r
    cases r
    obtain ⟨its, rv, ⟨o, ho, hc, n, hd⟩, _⟩ := I.tuple (SqT.of e)
    exact RpK.tuple ho hc hd (ih its rv)
  · intro us r
    cases r
    exact ⟨⟨_, .nil⟩, fun _ _ => ⟨[], (fun _ h => nomatch h), by simp only [Dat.pys, PyData.shownAll]; exact .nil⟩⟩
  · intro x y xs ys _ _ h1 h2 us r
    cases r with
    | cons r1 r2 => exact RpKs.cons (h1 _ r1) (h2 _ r2)
/-- repr(xs), xs a list or a tuple of such values -/
def rReprR : List V → Hp → VK → Prop := fun xs H Q => ∃ (a : Addr) (d : Dat), xs = [.ref a] ∧ Rp H (.ref a) d ∧ d.py.showable = true ∧ d.py.depth ≤ 64 ∧ d.py.shown.length ≤ sizeLine ∧ Q (.str d.py.shown) H
theorem call_reprR {X : Cx} (hg : X.A.guards = some []) (hu : X.A.units + 70 < cLine) : CallR X (.builtin "repr") rReprR := by
  intro pins s σ H xs us Q I r h
  obtain ⟨a, d, rfl, hr, sh, dp, sz, q⟩ := h
  obtain ⟨u, rfl, ru⟩ := vals1 r
  cases (show u = Value.ref a from ru)
  have fin : ∀ h' u tk, (∀ b o, s.heap.get? b = some o → h'.get? b = some o) → EP X pins σ Q (.str d.py.shown u) { s with heap := h', toks := tk } := fun h' u tk hk => ⟨.str d.py.shown, H, I.kept (t' := tk) hk, ⟨u, rfl⟩, q⟩
  cases hr with
  | dic e =>
    obtain ⟨o, n, h1, h2, h3, h4⟩ := dic_reads I e
    have rd : Reads s.heap (.ref a) (.dict []) _ := .dict h1 h2 h3 .nil .nil
    exact repr_of_reads' rd sh (fun _ z => by
      have z : sysModules ∈ [a] := z
      rw [List.mem_singleton.mp z] at h4
      simp at h4) hg (by show X.A.units + ((PyData.dict []).depth + 1) < cLine; have : (PyData.dict []).depth ≤ 64 := dp; omega) (fun _ _ e => e) fin sz
  | @lst _ xs l e hp =>
    obtain ⟨its, rv, ⟨o, n, ho, hc, _, hd⟩, _⟩ := I.list (SqL.of e)
    have all : ∀ {xs : List V} {l : List Dat}, Paired (Rp H) xs l → ∀ us, Vals xs us → RpKs X.prog X.w s.heap us (Dat.pys l) := by
      intro xs l hp
      induction hp with
      | nil =>
        intro us r
        cases r
        exact ⟨⟨_, .nil⟩, fun _ _ => ⟨[], (fun _ h => nomatch h), by simp only [Dat.pys, PyData.shownAll]; exact .nil⟩⟩
      | cons h1 _ ih =>
        intro us r
        cases r with
        | cons r1 r2 => exact RpKs.cons (h1.reprK I _ r1) (ih _ r2)
    have k := all hp its rv
    obtain ⟨⟨as, h4⟩, k⟩ := k
    have sz' : (listText (PyData.shownAll (Dat.pys l))).length ≤ sizeLine := by simpa only [Dat.py, PyData.shown] using sz
    obtain ⟨bs, hb, hk⟩ := k (by simpa [Dat.py, PyData.showable] using sh) (fun t ht => Nat.le_trans (listText_mem_le ht) sz')
    have r : Reads s.heap (.ref a) (.list (Dat.pys l)) _ := .list ho hc hd h4
    have hna : a ∉ bs := not_mem_of_deeper r (by simp only [PyData.depth]; omega) hb
    have dp' : PyData.depthAll (Dat.pys l) + 1 ≤ 64 := by simpa only [Dat.py, PyData.depth] using dp
    simp only [Dat.py, PyData.shown] at fin
    refine call_repr_slot (by omega) ⟨o, ho, hc⟩ F.slot_list_repr.toG ?_
    cases its with
    | nil =>
      have h4' : ReadsAll s.heap [] (Dat.pys l) _ := h4
      cases hl : Dat.pys l with
      | nil =>
        rw [hl] at fin
        simp only [PyData.shownAll, listText_nil] at fin
        exact call_list_repr_empty ⟨o, ho, hc⟩ ho hd ⟨_, _, rfl, fin s.heap _ _ fun _ _ e => e⟩
      | cons x t =>
        rw [hl] at h4'
        cases h4'
    | cons x t =>
      exact call_list_reprK ho hc hd hna (by simpa using hk.length_eq) (fun i y e => hk.item i y (by simpa using e)) (g := []) hg (fun b _ => Clear.nil b) (by show X.A.units + 1 + _ < cLine; omega) (fun _ _ e => e) (fun h' u tk hk => ⟨_, _, rfl, fin h' u tk hk⟩) sz'
  | @tup _ xs l e hp =>
    obtain ⟨its, rv, ⟨o, ho, hc, n, hd⟩, _⟩ := I.tuple (SqT.of e)
    have all : ∀ {xs : List V} {l : List Dat}, Paired (Rp H) xs l → ∀ us, Vals xs us → RpKs X.prog X.w s.heap us (Dat.pys l) := by
      intro xs l hp
      induction hp with
      | nil =>
        intro us r
        cases r
        exact ⟨⟨_, .nil⟩, fun _ _ => ⟨[], (fun _ h => nomatch h), by simp only [Dat.pys, PyData.shownAll]; exact .nil⟩⟩
      | cons h1 _ ih =>
        intro us r
        cases r with
        | cons r1 r2 => exact RpKs.cons (h1.reprK I _ r1) (ih _ r2)
    have k := all hp its rv
    obtain ⟨⟨as, h4⟩, k⟩ := k
    have sz' : (tupleText (PyData.shownAll (Dat.pys l))).length ≤ sizeLine := by simpa only [Dat.py, PyData.shown] using sz
    obtain ⟨bs, hb, hk⟩ := k (by simpa [Dat.py, PyData.showable] using sh) (fun t ht => Nat.le_trans (tupleText_mem_le ht) sz')
    have r : Reads s.heap (.ref a) (.tuple (Dat.pys l)) _ := .tuple ho hc hd h4
    have hna : a ∉ bs := not_mem_of_deeper r (by simp only [PyData.depth]; omega) hb
    have dp' : PyData.depthAll (Dat.pys l) + 1 ≤ 64 := by simpa only [Dat.py, PyData.depth] using dp
    simp only [Dat.py, PyData.shown] at fin
    refine call_repr_slot (by omega) ⟨o, ho, hc⟩ F.slot_tuple_repr ?_
    exact call_tuple_reprK ho hc hd hna hk (g := []) hg (fun b _ => Clear.nil b) (by show X.A.units + 1 + _ < cLine; omega) (fun _ _ e => e) (fun h' u tk hk => ⟨_, _, rfl, fin h' u tk hk⟩) sz'
end UP

set_option Elab.async false
set_option linter.all false
set_option maxRecDepth 100000
set_option maxHeartbeats 4000000
namespace UP
open PySem PySem.Spec PyProof.Rows L2
/-! ### an exception that is kept beyond its clause -/
def ExK (cls : Value) (a : Addr) : HO := .ext fun h => ∃ (oe : Obj) (vs : Array Value), h.get? a = some oe ∧ Zc cls none oe ∧ oe.data = .fields vs
theorem track {X : Cx} {pins : List (Addr × Obj)} {σ : L2.St} {H : Hp} {s : Shared} {a : Addr} {oe : Obj} {vs : Array Value} {cls : Value} (I : Inv X pins σ H s) (na : H a = none) (ha : s.heap.get? a = some oe) (hz : Zc cls none oe) (hd : oe.data = .fields vs)
    (n0 : X.s_0.heap.get? a = none) (nL : a ≠ X.env.locals) (np : ∀ p ∈ X.pn ++ pins, p.1 ≠ a) : Inv X pins σ (upd H a (ExK cls a)) s := by
  have k : ∀ b o, H b = some o → upd H a (ExK cls a) b = some o := fun b o e => by
    rw [upd_ne (ne_of_none e na)]
    exact e
  refine ⟨I.ok, I.os, I.bare, ⟨I.base.keep, I.base.slot, fun b o e n hx => ?_, I.base.there, fun b xs e => k _ _ (I.base.tups b xs e), fun b o u e => k _ _ (I.base.frzs b o u e), fun b ps e => ?_⟩, I.loc, I.cell, ?_, fun x c e => ?_, fun p hp => ?_, HOk.laidN I.hok (fun _ _ e => e) na ?_, I.len⟩
  · have nb : b ≠ a := fun z => by
      rw [z, n0] at e
      cases e
    rw [upd_ne nb]
    exact I.base.free b o e n hx
  · obtain ⟨m, h⟩ := I.base.tbls b ps e
    exact ⟨m, k _ _ h⟩
  · rw [upd_ne nL.symm]
    exact I.free
  · have nb : c ≠ a := fun z => by
      obtain ⟨v, o, ho, hc⟩ := I.cell x c e
      rw [z, ha] at ho
      cases ho
      rw [hd] at hc
      cases hc
    rw [upd_ne nb]
    exact I.freeC x c e
  · obtain ⟨h1, h2, h3⟩ := I.pin p hp
    exact ⟨h1, by rw [upd_ne (np p hp)]; exact h2, h3⟩
  · exact ⟨⟨oe, vs, ha, hz, hd⟩, ⟨oe, ha⟩, fun _ _ ⟨o, v, q, r⟩ kk => ⟨o, v, kk o q, r⟩⟩
theorem sky_new {B : Heap} {l : List Env} {a L : Addr} {Z : Obj → Prop} {h : Heap} (s : Sky B l a Z L h) : B.get? a = none := by
  rcases s with s | s | s
  · exact s.2.1
  · exact s.2.1
  · exact s.2.1
/-- what 'except x as n: y = n' wishes of an exception of the body, one of x's always -/
def wKeep (K : PySem.W.Frag) (c : Value) (i j : Nat) (D : Ends) : WX := fun cls d σ H =>
  PySem.W.exmOne K cls c = some true ∧ d = none ∧ ∀ a, H a = none → D.nx (((σ.set i (some (.ref a))).set j (some (.ref a))).set i none) (upd H a (ExK cls a))
theorem ps_try_keep {X : Cx} {x n y : Str} {c : Value} {i j : Nat} {body : List Stmt} {np py pm ap pos pos' : Pos} {tb : WX → TS} (hs : X.stack = X.env :: X.outer) (hf : X.env.frame = some X.env.locals) (hN : X.N.Nodup) (hi : X.N[i]? = some n) (hln : X.env.kindOf n = some .local) (hc : Names X x c) (hx0 : X.ex = [])
    (hb : ∀ (W : WX) (pn : List (Addr × Obj)) (xe : Value → Shared → Prop), Takes (X.tr pn xe) W → PassesOwn (model X.prog X.w) X.A X.env xe → PSs (X.tr pn xe) body (tb W))
    (hsu : ∀ (a : Addr) (pn : List (Addr × Obj)), PSs (X.suite a pn) [.Assign [.Name y py] (.Name n pm) ap] (tAsg (tVar i) (gName j))) :
    PS X (.Try body [.ExceptHandler (some (.Name x np)) (some n) [.Assign [.Name y py] (.Name n pm) ap] pos'] [] [] pos) (fun D σ H => tb (wKeep X.K c i j D) D σ H) := by
  refine ⟨fun pins s σ H D I h => ?_⟩
  have ok := I.ok
  refine wpAny_Try_except (wpAny_mono ((hb (wKeep X.K c i j D) (X.pn ++ pins) _ (fun u s' xx => ?_) PassesOwn.looking).run [] s σ H D (I.toTry _) h) (fun f s1 hsp => ?_) (fun e s1 he => he))
  · obtain ⟨a, B, sI, pins', σ1, H1, cls, d, rfl, J0, nb, up, sky, na, os, ag, hexm, rfl, q⟩ := xx
    have J : Inv X pins σ1 H1 sI := J0.ofTry ok
    have sky : Sky B (X.env :: X.outer) a (Zc cls none) X.env.locals s'.heap := by
      rw [← hs]
      exact sky
    have fr : X.A.frames = some (X.env :: X.outer) := by rw [ok.frames, hs]
    show wpAny (model X.prog X.w) X.A (noteFrame (.ref a) X.env) _ _ _
    have nB := sky_new sky
    refine Sky.land Zc.steady fr hf sky fun h3 fl3 up3 => ?_
    have J3 : Inv X pins σ1 H1 { s' with heap := h3 } := J.landed nb fl3.1 (up.trans up3) os ag
    obtain ⟨o3, v3, e3, z3, d3⟩ := fl3.there
    have notFr : a ∉ frs (X.env :: X.outer) := fun hm => by
      obtain ⟨_, o, e, hnf⟩ := fl3.2.2.1.mem hm
      rw [e3] at e
      cases e
      exact hnf _ d3
    have nL : a ≠ X.env.locals := fun z => notFr (List.mem_filterMap.mpr ⟨X.env, List.mem_cons_self, by rw [hf, z]⟩)
    have nF : a ∉ X.fs := fun hm => by
      obtain ⟨e, he, r⟩ := List.mem_filterMap.mp hm
      exact notFr (List.mem_filterMap.mpr ⟨e, List.mem_cons_of_mem _ he, r⟩)
    have nI : sI.heap.get? a = none := by
      cases hI : sI.heap.get? a with
      | none => rfl
      | some o =>
        have := nb a o hI (by
          show a ∉ frs X.stack
          rw [hs]
          exact notFr)
        rw [nB] at this
        cases this
    have n0 : X.s_0.heap.get? a = none := by
      cases h0 : X.s_0.heap.get? a with
      | none => rfl
      | some o =>
        obtain ⟨o', e'⟩ := J.base.there a o h0 (by rw [hx0]; exact List.not_mem_nil)
        rw [nI] at e'
        cases e'
    have npn : ∀ p ∈ X.pn ++ pins, p.1 ≠ a := fun p hp z => by
      have := (J.pin p hp).1
      rw [z, nI] at this
      cases this
    have S3 := J3.suite e3 d3 na nL nF
    refine wpAny_handleBy_cons (codeAny_handlers_test ?_) (by intro r; cases r)
    have LT : PySem.W.Looks (model X.prog X.w) h3 (typeOf (.ref a)) cls := fun A Q E s k r => wpAny_typeOf_ref (k _ _ e3) (by rw [z3.1]; exact r)
    have LM := PySem.W.exm_one (M := model X.prog X.w) (J3.kIn) LT hexm
    have test : ∀ {Q : Value → Shared → Prop} {E : Value → Shared → Prop}, Q c { s' with heap := h3 } → wpAny (model X.prog X.w) (X.A.mark (some (.ref a))) (eval (.Name x np) X.env) Q E { s' with heap := h3 } := fun {Q E} r => by
      obtain ⟨hg, hdbg, hm | ⟨hm, hv, hnn⟩⟩ := hc
      · exact ld_glob (X := X.suite a ((a, o3) :: (X.pn ++ pins))) S3 hg hm r hdbg
      · exact ld_blt (X := X.suite a ((a, o3) :: (X.pn ++ pins))) S3 hg hm hv r hnn hdbg
    refine test (LM.here (codeAny_handlers_suite_as (HandSPX.lands_againZ fl3 fun h4 fl4 up4 => ?_)))
    have J4 : Inv X pins σ1 H1 { s' with heap := h4 } := J.landed nb fl4.1 ((up.trans up3).trans up4) os ag
    obtain ⟨o4, v4, e4, z4, d4⟩ := fl4.there
    refine store_ok (X := X.suite a ((a, o4) :: (X.pn ++ pins))) (v := .ref a) (J4.suite e4 d4 na nL nF) hN hi (.inl hln) rfl (fun s5 S5 => ?_) (.inr hln)
    refine wpAny_mono ((hsu a ((a, o4) :: (X.pn ++ pins))).run [] s5 _ H1 { nx := fun σ6 H6 => σ6 = (σ1.set i (some (.ref a))).set j (some (.ref a)) ∧ H6 = H1, rt := fun _ _ => False, bk := fun _ _ => False, ct := fun _ _ => False } S5 ?_) (fun f s6 hsp => ?_) (fun _ _ r => False.elim r)
    · refine ⟨.ref a, ?_, rfl, rfl⟩
      have li : i < σ1.length := by
        rw [J.len]
        exact (List.getElem?_eq_some_iff.mp hi).1
      exact List.getElem?_set_self li
    cases f with
    | next =>
      obtain ⟨σ6, H6, S6, rfl, rfl⟩ := hsp
      have U := S6.unsuite ok
      have J6 : Inv X ((a, o4) :: pins) ((σ1.set i (some (.ref a))).set j (some (.ref a))) H6 s6 := ⟨U.ok, U.os, U.bare, U.base, U.loc, U.cell, U.free, U.freeC, fun p hp => by
        rcases List.mem_append.mp hp with z | z
        · exact U.pin p (List.mem_append_left _ z)
        · rcases List.mem_cons.mp z with z | z
          · rw [z]
            exact S6.pin (a, o4) (List.mem_append_left _ List.mem_cons_self)
          · exact U.pin p (List.mem_append_right _ z), U.hok, U.len⟩
      refine gone_ok J6 hN hi hln fun s7 J7 => ?_
      have e7 := (J7.pin (a, o4) (List.mem_append_right _ List.mem_cons_self)).1
      have K7 : Inv X pins (((σ1.set i (some (.ref a))).set j (some (.ref a))).set i none) H6 s7 := ⟨J7.ok, J7.os, J7.bare, J7.base, J7.loc, J7.cell, J7.free, J7.freeC, fun p hp => J7.pin p (by
        rcases List.mem_append.mp hp with z | z
        · exact List.mem_append_left _ z
        · exact List.mem_append_right _ (List.mem_cons_of_mem _ z)), J7.hok, J7.len⟩
      exact ⟨_, _, track K7 na e7 z4 d4 n0 nL npn, q a na⟩
    | brk =>
      obtain ⟨_, _, _, z⟩ := hsp
      exact z.elim
    | cont =>
      obtain ⟨_, _, _, z⟩ := hsp
      exact z.elim
    | ret u =>
      obtain ⟨_, _, _, _, _, z⟩ := hsp
      exact z.elim
  · cases f with
    | next =>
      obtain ⟨σ1, H1, J1, q⟩ := hsp
      exact wpAny_execs_nil ⟨σ1, H1, J1.ofTry ok, q⟩
    | brk =>
      obtain ⟨σ1, H1, J1, q⟩ := hsp
      exact ⟨σ1, H1, J1.ofTry ok, q⟩
    | cont =>
      obtain ⟨σ1, H1, J1, q⟩ := hsp
      exact ⟨σ1, H1, J1.ofTry ok, q⟩
    | ret u =>
      obtain ⟨v, σ1, H1, J1, r, q⟩ := hsp
      exact ⟨v, σ1, H1, J1.ofTry ok, r, q⟩
/-- isinstance(e, c), e kept -/
def rIsK (K : PySem.W.Frag) : List V → Hp → VK → Prop := fun xs H Q => ∃ (a D : Addr) (c : V) (cv : Value) (b : Bool), xs = [.ref a, c] ∧ H a = some (ExK (.ref D) a) ∧ ExcC K D ∧ (∀ u, RelV c u → u = cv) ∧ PySem.W.kitOne K (.ref D) cv = some b ∧ Q (.bl b) H
theorem inst_of {X : Cx} {pins : List (Addr × Obj)} {σ : L2.St} {H : Hp} {s : Shared} {a D : Addr} (I : Inv X pins σ H s) (h : H a = some (ExK (.ref D) a)) : ∃ oe, PySem.W.InstAt s.heap a oe D none := by
  have z : ObjOk X.prog X.w H s.heap a (.ext fun h => ∃ (oe : Obj) (vs : Array Value), h.get? a = some oe ∧ Zc (.ref D) none oe ∧ oe.data = .fields vs) := I.hok a _ h
  obtain ⟨⟨oe, vs, hget, hz, hv⟩, _⟩ := z
  refine ⟨oe, ?_⟩
  obtain ⟨oc, od, oda, osl⟩ := oe
  obtain ⟨h1, h2⟩ := hz
  dsimp only at h1 h2 hv
  subst h1 h2 hv
  exact ⟨hget, rfl, rfl, trivial⟩
theorem call_isK {X : Cx} : CallR X (.builtin "isinstance") (rIsK X.K) := by
  intro pins s σ H xs us Q I r h
  obtain ⟨a, D, c, cv, b, rfl, hE, C, hcv, e, q⟩ := h
  cases r with
  | cons rx rr =>
    cases rr with
    | cons rt rr =>
      cases rr
      cases rx
      have ec := hcv _ rt
      subst ec
      obtain ⟨oe, J⟩ := inst_of I hE
      exact PySem.W.kia_one (PySem.W.handS_kitx_exc C.hg C.hk C.hs C.hd C.ha C.hn C.ht C.hm) I.kIn J e (fun z => nomatch z) fun tk => ⟨.bl b, H, I.kept (t' := tk) fun _ _ z => z, rfl, q⟩
end UP

set_option Elab.async false
set_option linter.all false
set_option maxRecDepth 100000
set_option maxHeartbeats 4000000
namespace UP
open PySem PySem.Spec PyProof.Rows L2
/-- isinstance(e, (c1, c2, ..)), e kept -/
def rIsKT (K : PySem.W.Frag) : List V → Hp → VK → Prop := fun xs H Q => ∃ (a D tp : Addr) (cs : List V) (us : List Value) (b : Bool), xs = [.ref a, .ref tp] ∧ H a = some (ExK (.ref D) a) ∧ ExcC K D ∧ H tp = some (.tup cs) ∧ Paired ClsV cs us ∧ PySem.W.kitAny K (.ref D) us = some b ∧ Q (.bl b) H
theorem call_isKT {X : Cx} : CallR X (.builtin "isinstance") (rIsKT X.K) := by
  intro pins s σ H xs us Q I r h
  obtain ⟨a, D, tp, cs, ws, b, rfl, hE, C, hT, k, e, q⟩ := h
  obtain ⟨u1, u2, rfl, r1, r2⟩ := vals2 r
  cases (show u1 = Value.ref a from r1)
  cases (show u2 = Value.ref tp from r2)
  obtain ⟨oe, J⟩ := inst_of I hE
  obtain ⟨_, its, rv, o, h1, h2, n, h3⟩ := (show ObjOk X.prog X.w H s.heap tp (.tup cs) from I.hok tp _ hT)
  have e3 := ClsV.all k rv
  subst e3
  obtain ⟨oc, od, dt, sl⟩ := o
  simp only at h2 h3
  subst h2 h3
  exact PySem.W.kia_tup (PySem.W.handS_kitx_exc C.hg C.hk C.hs C.hd C.ha C.hn C.ht C.hm) I.kIn J h1 e (fun z => nomatch z) fun tk => ⟨.bl b, H, I.tok tk, rfl, q⟩
def six : List Str := ["InvalidSequence", "InvalidState", "InvalidPosition", "InvalidNumber", "InvalidItems", "TooLong"]
def oddA : List Str := ["Contradiction", "Impossible", "InvalidCommand", "InvalidCounts", "InvalidEffects", "InvalidKind"]
def oddB : List Str := ["InvalidKinds", "InvalidRecord", "InvalidText", "NothingToUndo", "SameEffect", "TooMany"]
/-- the classes stand there -/
structure Cmg (mg : Str → Option Value) (CA : Str → Addr) : Prop where
  all : ∀ n, n ∈ six ++ (oddA ++ (oddB ++ [("PairError" : Str)])) → mg n = some (.ref (CA n))
/-- what the class nm says of itself -/
structure ClsF (K : PySem.W.Frag) (CA : Str → Addr) (nm : Str) : Prop where
  ex : ExcC K (CA nm)
  em : PySem.W.exmOne K (.ref (CA nm)) (.ref (CA "PairError")) = some true
  ki : ∀ n, n ∈ six ++ (oddA ++ oddB) → PySem.W.kitOne K (.ref (CA nm)) (.ref (CA n)) = some (decide (n = nm))
  kp : PySem.W.kitOne K (.ref (CA nm)) (.ref (CA "PairError")) = some true
  kv : PySem.W.kitOne K (.ref (CA nm)) (.type "ValueError") = some true
theorem kit_none {K : PySem.W.Frag} {CA : Str → Addr} {nm : Str} (C : ClsF K CA nm) (hn : nm ∈ six) : ∀ l : List Str, (∀ n ∈ l, n ∈ six ++ (oddA ++ oddB) ∧ n ∉ six) → PySem.W.kitAny K (.ref (CA nm)) (l.map fun n => .ref (CA n)) = some false
  | [], _ => rfl
  | n :: t, h => by
    obtain ⟨h1, h2⟩ := h n (List.mem_cons_self ..)
    have e := C.ki n h1
    rw [decide_eq_false (fun z : n = nm => h2 (by rw [z]; exact hn))] at e
    exact kitAny_cons e (fun _ => kit_none C hn t fun x hx => h x (List.mem_cons_of_mem _ hx)) (fun z => by cases z)
section
variable {P : Program} {w : World} {K : PySem.W.Frag} {mg : Str → Option Value} {base : Heap}
end
end UP

set_option Elab.async false
set_option linter.all false
set_option maxRecDepth 100000
set_option maxHeartbeats 4000000
set_option pp.maxSteps 900
namespace UP
open PySem PySem.Spec PyProof.Rows L2
section
variable {X : Cx}
/-- a call that may raise, in a def that may -/
theorem pe_callXH {k : Nat} {x : Str} {ps : List Str} {sp : Sp} {W : WX} {p pos : Pos} {e : Expr} {es : List Expr} {t : TA} (G : HasX X.prog X.w X.K X.mg X.base k x ps sp) (tk : Takes X W) (hr : Room k X.A) (hg : Gl X x) (ha : PA X (e :: es) t)
    (hdb : (x == ("__debug__" : Str)) = false := by decide) (he : starEach (e :: es) X.env = (false, eval e X.env) :: starEach es X.env := by rfl) (hpl : (backTo pos (starEach es X.env)).any (·.1) = false := by rfl) :
    PE X (.Call (.Name x p) (e :: es) [] pos) (tCallS sp (WE W) t) := by
  obtain ⟨f, fd, g, kp, b, F⟩ := G
  exact pe_callS F hr hg g kp b (fun σ => passAt tk σ) ha hdb he hpl
/-- f(e, ..): either promise -/
def tCallEX (sp1 sp2 : Sp) (E : L2.St → XK) (t : TA) : TE := fun σ H Q => t σ H fun vs H1 => sp1 vs H1 Q E0 ∨ sp2 vs H1 Q (E σ)
theorem pe_callEX {k j : Nat} {x : Str} {ps : List Str} {sp1 sp2 : Sp} {W : WX} {p pos : Pos} {e : Expr} {es : List Expr} {t : TA} (G1 : Has X.prog X.w X.K X.mg X.base j x ps sp1) (G2 : HasX X.prog X.w X.K X.mg X.base k x ps sp2) (tk : Takes X W) (hr1 : Room j X.A) (hr : Room k X.A) (hg : Gl X x) (ha : PA X (e :: es) t)
    (hdb : (x == ("__debug__" : Str)) = false := by decide) (he : starEach (e :: es) X.env = (false, eval e X.env) :: starEach es X.env := by rfl) (hpl : (backTo pos (starEach es X.env)).any (·.1) = false := by rfl) :
    PE X (.Call (.Name x p) (e :: es) [] pos) (tCallEX sp1 sp2 (WE W) t) := by
  obtain ⟨f, fd, hm, hk, hb, F⟩ := G2
  obtain ⟨f1, fd1, hm1, hk1, hb1, F1⟩ := G1
  obtain rfl : f1 = f := Value.ref.inj (Option.some.inj (hm1.symm.trans hm))
  refine ⟨fun pins s σ H Q I h => ?_⟩
  refine wpAny_Call_Name_kw (ld_glob I hg hm ?_ hdb)
  refine PySem.W.callWith_K (h₀ := X.base) I.ok.mod.kin hk (thn (ha.run pos pins s σ H _ I h) fun us s1 ⟨vs, H1, I1, r, q⟩ => ⟨I1.kIn, ?_⟩) he hpl
  rcases q with q | q
  · exact run_fn (ds := []) (dvs := []) F1 hr1 hb1 .nil pass0 I1 r (by rw [List.append_nil]; exact q)
  · exact run_fnS F hr hb (passAt tk σ) I1 r q
end
theorem eqv_oneN (x : PyData) : PyData.eqv (.list [x]) (.list []) = false := by
  rw [PyData.eqv, PyData.eqvAll]
theorem shaped_oneO {k : Str} {n : Int} (kk : KindOk k) : SeqAt.shaped (.list [dOt (withR k n)]) = true := by
  unfold withR
  split
  · decide +kernel
  · exact shaped_runs (rs := [(k, n)]) fun r hr => by
      rw [List.mem_singleton.mp hr]
      exact kk
section
variable {P : Program} {w : World} {K : PySem.W.Frag} {mg : Str → Option Value} {base : Heap}
def spX_checked_short_runs (CS CL : Addr) : Sp := fun vs H _ E => ∃ (v : V) (d : Dat), vs = [v] ∧ Rp H v d ∧ d.fits ∧ ((d.seq = false ∧ ∀ H', Same H H' → E (.ref CS) none H') ∨ (d.seq = true ∧ 400 < lenR d.runs ∧ ∀ H', Same H H' → E (.ref CL) none H'))
theorem okX_checked_short_runs {CS CL : Addr} (D : Df K mg "checked_short_runs" s_checked_short_runs) (T : Tx mg) (X1 : Ex K mg "TooLong" CL) (G_checked_runs : HasX P w K mg base 5 "checked_runs" ["sequence"] (spX_checked_runs CS)) (G_length_of : Has P w K mg base 1 "length_of" ["runs"] sp_length_of) : HasX P w K mg base 6 "checked_short_runs" ["sequence"] (spX_checked_short_runs CS CL) := by
  refine hasX_of D sc_checked_short_runs (fun _ _ _ _ _ _ us hl => match us, hl with | [_], _ => rfl) (fun vs H Q E h => ?_) (fun f cdv A outer s H vs Q E hr h => ?_)
  · obtain ⟨_, _, rfl, _⟩ := h
    rfl
  · obtain ⟨v, d, rfl, hv, fv, bad⟩ := h
    refine ⟨_, (pss_cons (ps_set (i := 1) sc_checked_short_runs.nd rfl (by first | exact Or.inl rfl | exact Or.inr rfl) (pe_callXH G_checked_runs (takes_of rfl rfl rfl rfl) (hr.mono (by omega)) (by rfl) (pa_cons (pv 0) pa_nil)))
    (pss_cons (ps_if (pt_cmpR op_gt (pe_callH G_length_of (hr.mono (by omega)) (by rfl) (pa_cons (pv 1) pa_nil)) (pe_glI T.c_MAX_ITEMS (by rfl)) (nomark _)) (pss_one (ps_raise rfl (takes_of rfl rfl rfl rfl) (pmk_own PySem.F.excBase_ValueError X1.x X1.g X1.k (raises_own X1.b X1.t) (by exact rfl)))) pss_nil)
    (pss_one (ps_ret (pv 1))))), ?_⟩
    refine ⟨_, rfl, v, d, rfl, hv, fv, fun c1 H1 p s1 np hp => ?_, fun c1 H1 s1 => ?_⟩
    · rcases bad with ⟨c0, _⟩ | ⟨_, l4, qe⟩
      · rw [c0] at c1; cases c1
      · exact ⟨_, rfl, p, _, rfl, hp, by have := (seq_rp hv c1).2.1; omega, fun H2 s2 => ⟨_, _, rfl, rfl, _, rfl, iteP (decide_eq_true l4) (qe _ (s1.trans s2))⟩⟩
    · rcases bad with ⟨_, qe⟩ | ⟨c0, _⟩
      · exact qe _ s1
      · rw [c0] at c1; cases c1
theorem okX_items_of {CS CL : Addr} (D : Df K mg "items_of" s_items_of) (T : Tx mg) (G_checked_short_runs : HasX P w K mg base 6 "checked_short_runs" ["sequence"] (spX_checked_short_runs CS CL)) : HasX P w K mg base 7 "items_of" ["sequence"] (spX_checked_short_runs CS CL) := by
  refine hasX_of D sc_items_of (fun _ _ _ _ _ _ us hl => match us, hl with | [_], _ => rfl) (fun vs H Q E h => ?_) (fun f cdv A outer s H vs Q E hr h => ?_)
  · obtain ⟨_, _, rfl, _⟩ := h
    rfl
  · obtain ⟨v, d, rfl, hv, fv, bad⟩ := h
    refine ⟨_, (pss_cons (ps_set (i := 1) sc_items_of.nd rfl (by first | exact Or.inl rfl | exact Or.inr rfl) (pe_lst pa_nil))
    (pss_cons (ps_for (passes_of rfl) rfl (pi_list (pe_callXH G_checked_short_runs (takes_of rfl rfl rfl rfl) (hr.mono (by omega)) (by rfl) (pa_cons (pv 0) pa_nil))) (pg_tup rfl (pgs_cons (pg_name (i := 2) sc_items_of.nd rfl (by first | exact Or.inl rfl | exact Or.inr rfl)) (pgs_cons (pg_name (i := 3) sc_items_of.nd rfl (by first | exact Or.inl rfl | exact Or.inr rfl)) pgs_nil)))
      (pss_one (ps_expr (pe_bm PySem.F.plainAttrs_list PySem.F.slot_list_extend PySem.F.type_list_extend mt_extend (pv 1) (pa_cons (pe_op op_rep (pe_lst (pa_cons (pv 2) pa_nil)) (pv 3)) pa_nil)))))
    (pss_one (ps_ret (pv 1))))), ?_⟩
    refine ⟨Nat.zero_le _, fun p np => ?_⟩
    have s0 := same_upd (o := .lst []) np
    refine ⟨_, rfl, v, d, rfl, hv.same s0, fv, ?_⟩
    rcases bad with ⟨c0, qe⟩ | ⟨c0, l4, qe⟩
    · exact .inl ⟨c0, fun H1 s1 => qe _ (s0.trans s1)⟩
    · exact .inr ⟨c0, l4, fun H1 s1 => qe _ (s0.trans s1)⟩
/-- a sequence of at most 400 items, as a value -/
def Dat.shortS (d : Dat) : Prop := d.seq = true ∧ lenR d.runs ≤ 400
theorem short_rp {H : Hp} {v : V} {d : Dat} (hv : Rp H v d) (h : d.shortS) : RunsG H v d.runs ∧ SeqOk d.runs ∧ lenR d.runs ≤ 400 := ⟨(seq_rp hv h.1).1, (seq_rp hv h.1).2, h.2⟩
/-- what items_of refuses -/
def BadQ (d : Dat) (CS CL : Addr) (H : Hp) (E : XK) : Prop := (d.seq = false ∧ ∀ H', Same H H' → E (.ref CS) none H') ∨ (d.seq = true ∧ 400 < lenR d.runs ∧ ∀ H', Same H H' → E (.ref CL) none H')
theorem BadQ.same {d : Dat} {CS CL : Addr} {H H1 : Hp} {E : XK} (h : BadQ d CS CL H E) (s : Same H H1) : BadQ d CS CL H1 E := by
  rcases h with ⟨a, b⟩ | ⟨a, c, b⟩
  · exact .inl ⟨a, fun H' s' => b H' (s.trans s')⟩
  · exact .inr ⟨a, c, fun H' s' => b H' (s.trans s')⟩
def spX_effect_of (CS CL CK : Addr) : Sp := fun vs H _ E => ∃ (v u : V) (d e : Dat), vs = [v, u] ∧ Rp H v d ∧ d.fits ∧ Rp H u e ∧ e.fit ∧ (BadQ d CS CL H E ∨ (d.shortS ∧ e.kind = false ∧ ∀ H', Same H H' → E (.ref CK) none H'))
theorem okX_effect_of {CS CL CK : Addr} (D : Df K mg "effect_of" s_effect_of) (T : Tx mg) (G_items_of : Has P w K mg base 7 "items_of" ["sequence"] sp_items_of) (GX_items_of : HasX P w K mg base 7 "items_of" ["sequence"] (spX_checked_short_runs CS CL)) (GX_check_kind : HasX P w K mg base 2 "check_kind" ["kind"] (spX_check_kind CK))
    (G_endings_of : Has P w K mg base 2 "endings_of" ["items"] sp_endings_of) (G_effects_up_to : Has P w K mg base 2 "effects_up_to" ["items", "endings", "kind", "most"] sp_effects_up_to) (G_shift_of : Has P w K mg base 1 "shift_of" ["items", "kind"] sp_shift_of) (G_state_with : Has P w K mg base 1 "state_with" ["kind", "number"] sp_state_with) :
    HasX P w K mg base 8 "effect_of" ["sequence", "kind"] (spX_effect_of CS CL CK) := by
  refine hasX_of D sc_effect_of (fun _ _ _ _ _ _ us hl => match us, hl with | [_, _], _ => rfl) (fun vs H Q E h => ?_) (fun f cdv A outer s H vs Q E hr h => ?_)
  · obtain ⟨_, _, _, _, rfl, _⟩ := h
    rfl
  · obtain ⟨v, u, d, e, rfl, hv, fv, hu, fu, bad⟩ := h
    refine ⟨_, (pss_cons (ps_set (i := 2) sc_effect_of.nd rfl (by first | exact Or.inl rfl | exact Or.inr rfl) (pe_callEX G_items_of GX_items_of (takes_of rfl rfl rfl rfl) (hr.mono (by omega)) (hr.mono (by omega)) (by rfl) (pa_cons (pv 0) pa_nil)))
    (pss_cons (ps_expr (pe_callXH GX_check_kind (takes_of rfl rfl rfl rfl) (hr.mono (by omega)) (by rfl) (pa_cons (pv 1) pa_nil)))
    (pss_cons (ps_set (i := 3) sc_effect_of.nd rfl (by first | exact Or.inl rfl | exact Or.inr rfl) (pe_callH G_effects_up_to (hr.mono (by omega)) (by rfl) (pa_cons (pv 2) (pa_cons (pe_callH G_endings_of (hr.mono (by omega)) (by rfl) (pa_cons (pv 2) pa_nil)) (pa_cons (pv 1) (pa_cons (pe_callB call_len_seq (by rfl) T.n_len (by decide +kernel) (pa_cons (pv 2) pa_nil)) pa_nil))))))
    (pss_cons (ps_set (i := 4) sc_effect_of.nd rfl (by first | exact Or.inl rfl | exact Or.inr rfl) (pe_callH G_shift_of (hr.mono (by omega)) (by rfl) (pa_cons (pv 2) (pa_cons (pv 1) pa_nil))))
    (pss_cons (ps_set (i := 5) sc_effect_of.nd rfl (by first | exact Or.inl rfl | exact Or.inr rfl) (pe_callB call_len_seq (by rfl) T.n_len (by decide +kernel) (pa_cons (pv 2) pa_nil)))
    (pss_cons (ps_while (passes_of rfl) (PW.pt (pw_and (pt_cmpR op_gt (pv 5) pe_int (nomark _)) (pw_and1 (pt_cmpR (op_eqD hr.units) (pe_ix ix_list (pv 3) (pe_op op_sub (pv 5) pe_int) (fun _ _ => rfl)) (pe_callH G_state_with (hr.mono (by omega)) (by rfl) (pa_cons (pv 1) (pa_cons (pe_op op_add (pe_op op_sub (pv 5) pe_int) (pv 4)) pa_nil))) (nomark _)))))
      (pss_one (ps_aug (i := 5) sc_effect_of.nd rfl (by first | exact Or.inl rfl | exact Or.inr rfl) pe_int ip_sub)))
    (pss_one (ps_ret (pe_slice sl_list (pv 3) po_none (po_some (pe_op op_add (pv 5) pe_int))))))))))), ?_⟩
    rcases bad with bad | ⟨sh, c0, qe⟩
    · exact ⟨_, rfl, .inr ⟨v, d, rfl, hv, fv, bad⟩⟩
    · obtain ⟨hR, ok, l4⟩ := short_rp hv sh
      refine ⟨_, rfl, .inl ⟨v, d.runs, rfl, hR, ok, l4, fun H1 a s1 na ha => ?_⟩⟩
      exact ⟨_, rfl, u, e, rfl, hu.same s1, fu, fun c1 => absurd c1 (by rw [c0]; decide), fun _ H2 s2 => qe _ (s1.trans s2)⟩
/-! ### states of a kind, effects, among all values -/
def Dat.stof (d : Dat) (k : Str) : Bool := d.state && match d.stt with
  | none => true
  | some r => decide (r.1 = k)
def lastOf (l : List Dat) (k : Str) : Bool := match l.getLast? with
  | some x => x.stof k
  | none => false
def Dat.effs (d : Dat) (k : Str) : Bool := match d.parts with
  | some l => decide ((l.length : Int) ≤ 401) && (!decide (l.length = 0) && (l.all Dat.state && lastOf l k))
  | none => false
def spD_is_state_of : Sp := fun vs H Q _ => ∃ (v : V) (d : Dat) (k : Str), vs = [v, .str k] ∧ Rp H v d ∧ d.fit2 ∧ ∀ H', Same H H' → Q (.bl (d.stof k)) H'
theorem okD_is_state_of (D : Df K mg "is_state_of" s_is_state_of) (G_is_state : Has P w K mg base 2 "is_state" ["value"] spD_is_state) : Has P w K mg base 3 "is_state_of" ["value", "kind"] spD_is_state_of := by
  refine has_of D sc_is_state_of (fun _ _ _ _ _ _ us hl => match us, hl with | [_, _], _ => rfl) (fun vs H Q E h => ?_) (fun f cdv A outer s H vs Q E hr h => ?_)
  · obtain ⟨_, _, _, rfl, _⟩ := h
    rfl
  · obtain ⟨v, d, k, rfl, hv, fv, q⟩ := h
    refine ⟨_, (pss_one (ps_ret (pe_and (pe_callH G_is_state (hr.mono (by omega)) (by rfl) (pa_cons (pv 0) pa_nil)) (pe_one (pe_or (pe_cmpR op_isN (pv 0) pe_non (nomark _)) (pe_one (pe_cmpR op_eq (pe_ix ix_seq (pv 0) pe_int (fun _ _ => rfl)) (pv 1) (nomark _)))))))), ?_⟩
    refine ⟨_, rfl, v, d, rfl, hv, fv, fun H1 s1 => ?_⟩
    unfold Dat.stof at q
    by_cases c : d.state = true
    · rw [c] at q ⊢
      refine ⟨true, rfl, iteP rfl ?_⟩
      have hv1 := (state_rp (hv.same s1) c).1
      cases es : d.stt with
      | none =>
        rw [es] at hv1 q
        cases hv1
        exact ⟨_, rfl, rfl, _, rfl, iteP rfl (q _ s1)⟩
      | some r =>
        rw [es] at hv1 q
        obtain ⟨t, rfl, ht⟩ := hv1
        refine ⟨_, rfl, rfl, _, rfl, iteN rfl ⟨_, rfl, atSE ht rfl ⟨_, rfl, rfl, ?_⟩⟩⟩
        have e : decide (V.str r.1 = V.str k) = decide (r.1 = k) := decide_eq_decide.mpr ⟨fun z => V.str.inj z, fun z => by rw [z]⟩
        rw [e]
        exact q _ s1
    · have c : d.state = false := by simpa using c
      rw [c] at q ⊢
      exact ⟨false, rfl, iteN rfl (q _ s1)⟩
def spD_is_effects : Sp := fun vs H Q _ => ∃ (v : V) (d : Dat) (k : Str), vs = [v, .str k] ∧ Rp H v d ∧ d.fits ∧ ∀ H', Same H H' → Q (.bl (d.effs k)) H'
theorem okD_is_effects (D : Df K mg "is_effects" s_is_effects) (T : Tx mg) (G_is_listed : Has P w K mg base 1 "is_listed" ["value", "most"] spD_is_listed) (G_is_state : Has P w K mg base 2 "is_state" ["value"] spD_is_state) (G_is_state_of : Has P w K mg base 3 "is_state_of" ["value", "kind"] spD_is_state_of) : Has P w K mg base 4 "is_effects" ["value", "kind"] spD_is_effects := by
  refine has_of D sc_is_effects (fun _ _ _ _ _ _ us hl => match us, hl with | [_, _], _ => rfl) (fun vs H Q E h => ?_) (fun f cdv A outer s H vs Q E hr h => ?_)
  · obtain ⟨_, _, _, rfl, _⟩ := h
    rfl
  · obtain ⟨v, d, k, rfl, hv, fit, q⟩ := h
    refine ⟨_, (pss_cons (ps_if (PW.pt (pw_or (pt_not (pt_val (pe_callH G_is_listed (hr.mono (by omega)) (by rfl) (pa_cons (pv 0) (pa_cons (pe_glI T.c_MAX_EFFECTS (by rfl)) pa_nil))))) (pw_or (pt_cmpR op_eq (pe_callB call_len_seq (by rfl) T.n_len (by decide +kernel) (pa_cons (pv 0) pa_nil)) pe_int (nomark _)) (pw_or1 (pt_not (pt_val (pe_callB (cr_all rfl) (by rfl) T.n_all (by decide +kernel) (pa_cons (pe_lc (own := [("effect", 2)]) rfl sc_is_effects.nd (pi_seqV 0) (blkOk_by (N := ["value", "kind", "effect"]) (sc := defScope s_is_effects) (by decide +kernel)) (fun _ _ _ _ _ => (pg_name (i := 2) sc_is_effects.nd rfl (by first | exact Or.inl rfl | exact Or.inr rfl))) (fun _ _ _ _ _ => pts_nil) (fun _ _ _ _ _ => (pe_callH G_is_state (hr.mono (by omega)) (by rfl) (pa_cons (pv 2) pa_nil)))) pa_nil)))))))) (pss_one (ps_ret pe_bl)) pss_nil)
    (pss_one (ps_ret (pe_callH G_is_state_of (hr.mono (by omega)) (by rfl) (pa_cons (pe_ix ix_seq (pv 0) (pe_un un_neg pe_int) (fun _ _ => rfl)) (pa_cons (pv 1) pa_nil)))))), ?_⟩
    refine ⟨_, rfl, v, d, 401, rfl, hv, fun H1 s1 => ⟨_, rfl, ?_⟩⟩
    by_cases cl : d.listed 401 = true
    · refine iteN (by rw [cl]; rfl) ?_
      obtain ⟨l, hd⟩ : ∃ l, d.parts = some l := by
        cases hp : d.parts with
        | some l => exact ⟨l, rfl⟩
        | none =>
          unfold Dat.listed at cl
          rw [hp] at cl
          cases cl
      obtain ⟨a, xs, rfl, hx, hp⟩ := hv.seq hd
      have lx : xs.length = l.length := Paired.len hp
      obtain ⟨l5, fit⟩ := fit l hd
      have l4 : (l.length : Int) ≤ 401 := by
        unfold Dat.listed at cl
        rw [hd] at cl
        exact of_decide_eq_true cl
      have e0 : d.effs k = (!decide (l.length = 0) && (l.all Dat.state && lastOf l k)) := by
        unfold Dat.effs
        rw [hd]
        show (decide _ && _) = _
        rw [decide_eq_true l4]
        rfl
      rw [e0] at q
      refine ⟨_, rfl, a, _, rfl, (hx.same s1).elim (fun z => .inl (.of z)) (fun z => .inr (.of z)), rfl, _, rfl, ?_⟩
      by_cases c0 : l.length = 0
      · rw [decide_eq_true c0] at q
        exact iteP (decide_eq_true (by rw [lx, c0]; rfl)) (q _ s1)
      rw [decide_eq_false c0] at q
      refine iteN (decide_eq_false fun z => c0 (by have := V.int.inj z; omega)) ?_
      refine ⟨a, xs, rfl, hx.same s1, fun J wk L nL => lc_wk wk (fun i H' => Same H1 H' ∧ H' L = some (.lst (((l.take i).map Dat.state).map V.bl))) (fun _ _ p => p.1) ⟨same_upd nL, upd_same⟩ (fun i x H2 ex p => ?_) (fun H2 p => ?_)⟩
      · obtain ⟨sm, hL⟩ := p
        obtain ⟨r, er, hr1⟩ := Paired.at hp ex
        have hi : i < xs.length := (List.getElem?_eq_some_iff.mp ex).1
        refine ⟨rfl, yesT ⟨_, rfl, x, r, rfl, hr1.same (s1.trans sm), fit r (List.mem_of_getElem? er), fun H3 s3 => ⟨_, s3 _ _ hL, ?_, same_grow nL (sm.trans s3), ?_⟩⟩⟩
        · simp only [List.length_map, List.length_take]
          exact small (by omega)
        · rw [upd_same, take_snoc er, List.map_append, List.map_append]
          rfl
      · rw [lx, List.take_length] at p
        refine ⟨L, _, rfl, .of p.2, _, rfl, ?_⟩
        rw [all_map]
        have s2 : Same H H2 := s1.trans p.1
        by_cases ca : l.all Dat.state = true
        · rw [ca] at q
          refine iteN (by rw [ca]; rfl) ?_
          have hne : l ≠ [] := fun z => c0 (by rw [z]; rfl)
          obtain ⟨l0, y, el⟩ : ∃ l0 y, l = l0 ++ [y] := by
            rcases List.eq_nil_or_concat l with e | ⟨l0, y, e⟩
            · exact absurd e hne
            · exact ⟨l0, y, by rw [e, List.concat_eq_append]⟩
          have ey : l[xs.length - 1]? = some y := by
            rw [lx, ← List.getLast?_eq_getElem?, el, List.getLast?_concat]
          have hlt : xs.length - 1 < xs.length := by omega
          obtain ⟨u, eu⟩ : ∃ u, xs[xs.length - 1]? = some u := ⟨_, List.getElem?_eq_getElem hlt⟩
          obtain ⟨y', ey', hu⟩ := Paired.at hp eu
          rw [ey] at ey'
          cases ey'
          have exl : atI xs (-1) = some u := by
            obtain ⟨ys, w, exs⟩ : ∃ ys w, xs = ys ++ [w] := by
              rcases List.eq_nil_or_concat xs with e | ⟨ys, w, e⟩
              · rw [e] at hlt
                exact absurd hlt (Nat.not_lt_zero _)
              · exact ⟨ys, w, by rw [e, List.concat_eq_append]⟩
            rw [← List.getLast?_eq_getElem?, exs, List.getLast?_concat] at eu
            cases eu
            rw [exs]
            exact atI_last _ _
          have eL : lastOf l k = y.stof k := by
            unfold lastOf
            rw [el, List.getLast?_concat]
          rw [eL] at q
          have my : y ∈ l := by
            rw [el]
            exact List.mem_append.mpr (.inr (List.mem_singleton.mpr rfl))
          exact ⟨_, rfl, _, rfl, atSE (hx.same s2) exl ⟨_, rfl, u, y, k, rfl, hu.same s2, fit y my, fun H3 s3 => q _ (s2.trans s3)⟩⟩
        · have ca : l.all Dat.state = false := by simpa using ca
          rw [ca] at q
          exact iteP (by rw [ca]; rfl) (q _ s2)
    · have cl : d.listed 401 = false := by simpa using cl
      have e0 : d.effs k = false := by
        unfold Dat.listed at cl
        unfold Dat.effs
        cases hp : d.parts with
        | none => rfl
        | some l =>
          rw [hp] at cl
          have cl : decide ((l.length : Int) ≤ 401) = false := cl
          show (decide _ && _) = false
          rw [cl]
          rfl
      rw [e0] at q
      exact iteP (by rw [cl]; rfl) (q _ s1)
def spX_effect_on (CK CF CT : Addr) : Sp := fun vs H _ E => ∃ (v x u : V) (d e f : Dat), vs = [v, x, u] ∧ Rp H v d ∧ d.fits ∧ Rp H x e ∧ e.fit ∧ Rp H u f ∧ f.fit2 ∧ ((e.kind = false ∧ ∀ H', Same H H' → E (.ref CK) none H') ∨ ∃ k, e = .str k ∧ e.kind = true ∧ ((d.effs k = false ∧ ∀ H', Same H H' → E (.ref CF) none H') ∨ (d.effs k = true ∧ f.stof k = false ∧ ∀ H', Same H H' → E (.ref CT) none H')))
theorem okX_effect_on {CK CF CT : Addr} (D : Df K mg "effect_on" s_effect_on) (T : Tx mg) (X1 : Ex K mg "InvalidEffects" CF) (X2 : Ex K mg "InvalidState" CT) (GX_check_kind : HasX P w K mg base 2 "check_kind" ["kind"] (spX_check_kind CK)) (G_is_effects : Has P w K mg base 4 "is_effects" ["value", "kind"] spD_is_effects) (G_is_state_of : Has P w K mg base 3 "is_state_of" ["value", "kind"] spD_is_state_of)
    (G_waiting_number : Has P w K mg base 1 "waiting_number" ["state"] sp_waiting_number) (G_checked_state : Has P w K mg base 3 "checked_state" ["state"] sp_checked_state) (G_state_with : Has P w K mg base 1 "state_with" ["kind", "number"] sp_state_with) (GX_checked_state : HasX P w K mg base 3 "checked_state" ["state"] (spX_checked_state CT)) :
    HasX P w K mg base 8 "effect_on" ["effects", "kind", "state"] (spX_effect_on CK CF CT) := by
  refine hasX_of D sc_effect_on (fun _ _ _ _ _ _ us hl => match us, hl with | [_, _, _], _ => rfl) (fun vs H Q E h => ?_) (fun f cdv A outer s H vs Q E hr h => ?_)
  · obtain ⟨_, _, _, _, _, _, rfl, _⟩ := h
    rfl
  · obtain ⟨v, x, u, d, e, f', rfl, hv, fv, hx, fx, hu, fu, bad⟩ := h
    refine ⟨_, (pss_cons (ps_expr (pe_callXH GX_check_kind (takes_of rfl rfl rfl rfl) (hr.mono (by omega)) (by rfl) (pa_cons (pv 1) pa_nil)))
    (pss_cons (ps_if (pt_not (pt_val (pe_callH G_is_effects (hr.mono (by omega)) (by rfl) (pa_cons (pv 0) (pa_cons (pv 1) pa_nil))))) (pss_one (ps_raise rfl (takes_of rfl rfl rfl rfl) (pmk_own PySem.F.excBase_ValueError X1.x X1.g X1.k (raises_own X1.b X1.t) (by exact rfl)))) pss_nil)
    (pss_cons (ps_if (pt_not (pt_val (pe_callH G_is_state_of (hr.mono (by omega)) (by rfl) (pa_cons (pv 2) (pa_cons (pv 1) pa_nil))))) (pss_one (ps_raise rfl (takes_of rfl rfl rfl rfl) (pmk_own PySem.F.excBase_ValueError X2.x X2.g X2.k (raises_own X2.b X2.t) (by exact rfl)))) pss_nil)
    (pss_cons (ps_set (i := 3) sc_effect_on.nd rfl (by first | exact Or.inl rfl | exact Or.inr rfl) (pe_callH G_waiting_number (hr.mono (by omega)) (by rfl) (pa_cons (pv 2) pa_nil)))
    (pss_cons (ps_set (i := 4) sc_effect_on.nd rfl (by first | exact Or.inl rfl | exact Or.inr rfl) (pe_op op_sub (pe_callB call_len_seq (by rfl) T.n_len (by decide +kernel) (pa_cons (pv 0) pa_nil)) pe_int))
    (pss_cons (ps_if (pt_cmpR op_le (pv 3) (pv 4) (nomark _)) (pss_one (ps_ret (pe_callXH GX_checked_state (takes_of rfl rfl rfl rfl) (hr.mono (by omega)) (by rfl) (pa_cons (pe_ix ix_seq (pv 0) (pv 3) (fun _ _ => rfl)) pa_nil)))) pss_nil)
    (pss_one (ps_ret (pe_callH G_state_with (hr.mono (by omega)) (by rfl) (pa_cons (pv 1) (pa_cons (pe_op op_sub (pe_op op_add (pe_callH G_waiting_number (hr.mono (by omega)) (by rfl) (pa_cons (pe_ix ix_seq (pv 0) (pv 4) (fun _ _ => rfl)) pa_nil)) (pv 3)) (pv 4)) pa_nil))))))))))), ?_⟩
    refine ⟨_, rfl, x, e, rfl, hx, fx, fun c1 H1 s1 => ?_, fun c1 H1 s1 => ?_⟩
    · rcases bad with ⟨c0, _⟩ | ⟨k, rfl, _, bad⟩
      · rw [c0] at c1; cases c1
      cases hx
      refine ⟨_, rfl, _, rfl, v, d, k, rfl, hv.same s1, fv, fun H2 s2 => ?_⟩
      have s02 := s1.trans s2
      rcases bad with ⟨b0, qe⟩ | ⟨b0, b1, qe⟩
      · exact ⟨_, rfl, iteP (by rw [b0]; rfl) (qe _ s02)⟩
      · refine ⟨_, rfl, iteN (by rw [b0]; rfl) ⟨_, rfl, _, rfl, u, f', k, rfl, hu.same s02, fu, fun H3 s3 => ⟨_, rfl, iteP (by rw [b1]; rfl) (qe _ (s02.trans s3))⟩⟩⟩
    · rcases bad with ⟨_, qe⟩ | ⟨k, rfl, c0, _⟩
      · exact qe _ s1
      · rw [c0] at c1; cases c1
/-! have_same_effect: slots 0:first 1:second 2:first_items -/
abbrev s_have_same_effect : Stmt := topS 60
theorem sc_have_same_effect : FnScope ["first", "second", "first_items"] ["first", "second"] (defScope s_have_same_effect) := ⟨rfl, rfl, rfl, by decide +kernel, rfl, by decide +kernel, by decide +kernel⟩
def sp_have_same_effect : Sp := fun vs H Q _ => ∃ (u v : V) (rs cs : List Run), vs = [u, v] ∧ RunsG H u rs ∧ SeqOk rs ∧ lenR rs ≤ 400 ∧ RunsG H v cs ∧ SeqOk cs ∧ lenR cs ≤ 400 ∧ (setS (itR rs ++ itR cs)).length ≤ 20 ∧ ∀ H' (r : Bool), Same H H' → (r = true ↔ AllEq (itR rs) (itR cs)) → Q (.bl r) H'
theorem ok_have_same_effect (D : Df K mg "have_same_effect" s_have_same_effect) (G_items_of : Has P w K mg base 7 "items_of" ["sequence"] sp_items_of) (G_first_difference : Has P w K mg base 3 "first_difference" ["first", "second"] sp_first_difference) :
    Has P w K mg base 8 "have_same_effect" ["first", "second"] sp_have_same_effect := by
  refine has_of D sc_have_same_effect (fun _ _ _ _ _ _ us hl => match us, hl with | [_, _], _ => rfl) (fun vs H Q E h => ?_) (fun f cdv A₀ outer s₀ H vs Q E hr h => ?_)
  · obtain ⟨_, _, _, _, rfl, _⟩ := h
    rfl
  · obtain ⟨u, v, rs, cs, rfl, hu, oku, lu, hv, okv, lv, s20, q⟩ := h
    have posu : ∀ r ∈ rs, 1 ≤ r.2 := fun r hr => (oku.2.1 r hr).2.1
    have posv : ∀ r ∈ cs, 1 ≤ r.2 := fun r hr => (okv.2.1 r hr).2.1
    have e1 := len_it rs posu
    have e2 := len_it cs posv
    refine ⟨_, (pss_cons (ps_set (i := 2) sc_have_same_effect.nd rfl (by first | exact Or.inl rfl | exact Or.inr rfl) (pe_callH G_items_of (hr.mono (by omega)) (by rfl) (pa_cons (pv 0) pa_nil)))
    (pss_one (ps_ret (pe_cmpR (op_eqD hr.units) (pe_callH G_first_difference (hr.mono (by omega)) (by rfl) (pa_cons (pv 2) (pa_cons (pe_callH G_items_of (hr.mono (by omega)) (by rfl) (pa_cons (pv 1) pa_nil)) pa_nil))) (pe_lst pa_nil) (nomark _))))), ?_⟩
    refine ⟨_, rfl, u, rs, rfl, hu, oku, lu, fun H1 a s1 na ha => ?_⟩
    refine ⟨_, rfl, _, rfl, v, cs, rfl, hv.same s1, okv, lv, fun H2 b s2 nb hb => ?_⟩
    refine ⟨a, b, itR rs, itR cs, rfl, s2 _ _ ha, hb, by omega, by omega, it_kinds fun r hr => (oku.2.1 r hr).1, it_kinds fun r hr => (okv.2.1 r hr).1, s20, fun H3 p x k n s3 n3 h3 hx kk hn ne => ?_, fun H3 p s3 n3 h3 al => ?_⟩
    · refine ⟨Nat.zero_le _, fun e ne2 => ?_⟩
      have se := same_upd (o := .lst []) ne2
      refine ⟨.list [dOt (withR k n)], .list [], .lst (.of (se _ _ h3)) (.cons (dp_o (hx.same se)) .nil), .lst (.of upd_same) .nil, shaped_oneO kk, shaped_nil, ?_⟩
      rw [eqv_oneN]
      exact q _ _ (s1.trans (s2.trans (s3.trans se))) ⟨fun z => (by cases z), fun al => absurd (al k n hn) ne⟩
    · refine ⟨Nat.zero_le _, fun e ne2 => ?_⟩
      have se := same_upd (o := .lst []) ne2
      refine ⟨.list [], .list [], .lst (.of (se _ _ h3)) .nil, .lst (.of upd_same) .nil, shaped_nil, shaped_nil, ?_⟩
      exact q _ _ (s1.trans (s2.trans (s3.trans se))) ⟨fun _ => al, fun _ => (by decide +kernel)⟩
def spX_have_same_effect (CS CL : Addr) : Sp := fun vs H _ E => ∃ (v u : V) (d e : Dat), vs = [v, u] ∧ Rp H v d ∧ d.fits ∧ Rp H u e ∧ e.fits ∧ (BadQ d CS CL H E ∨ (d.shortS ∧ BadQ e CS CL H E))
theorem okX_have_same_effect {CS CL : Addr} (D : Df K mg "have_same_effect" s_have_same_effect) (G_items_of : Has P w K mg base 7 "items_of" ["sequence"] sp_items_of) (GX_items_of : HasX P w K mg base 7 "items_of" ["sequence"] (spX_checked_short_runs CS CL)) (G_first_difference : Has P w K mg base 3 "first_difference" ["first", "second"] sp_first_difference) :
    HasX P w K mg base 8 "have_same_effect" ["first", "second"] (spX_have_same_effect CS CL) := by
  refine hasX_of D sc_have_same_effect (fun _ _ _ _ _ _ us hl => match us, hl with | [_, _], _ => rfl) (fun vs H Q E h => ?_) (fun f cdv A outer s H vs Q E hr h => ?_)
  · obtain ⟨_, _, _, _, rfl, _⟩ := h
    rfl
  · obtain ⟨v, u, d, e, rfl, hv, fv, hu, fu, bad⟩ := h
    refine ⟨_, (pss_cons (ps_set (i := 2) sc_have_same_effect.nd rfl (by first | exact Or.inl rfl | exact Or.inr rfl) (pe_callEX G_items_of GX_items_of (takes_of rfl rfl rfl rfl) (hr.mono (by omega)) (hr.mono (by omega)) (by rfl) (pa_cons (pv 0) pa_nil)))
    (pss_one (ps_ret (pe_cmpR (op_eqD hr.units) (pe_callH G_first_difference (hr.mono (by omega)) (by rfl) (pa_cons (pv 2) (pa_cons (pe_callEX G_items_of GX_items_of (takes_of rfl rfl rfl rfl) (hr.mono (by omega)) (hr.mono (by omega)) (by rfl) (pa_cons (pv 1) pa_nil)) pa_nil))) (pe_lst pa_nil) (nomark _))))), ?_⟩
    rcases bad with bad | ⟨sh, bad⟩
    · exact ⟨_, rfl, .inr ⟨v, d, rfl, hv, fv, bad⟩⟩
    · obtain ⟨hR, ok, l4⟩ := short_rp hv sh
      exact ⟨_, rfl, .inl ⟨v, d.runs, rfl, hR, ok, l4, fun H1 a s1 na ha => ⟨_, rfl, _, rfl, .inr ⟨u, e, rfl, hu.same s1, fu, bad.same s1⟩⟩⟩⟩
/-! state_that_differs: slots 0:first 1:second 2:first_items 3:states -/
abbrev s_state_that_differs : Stmt := topS 61
theorem sc_state_that_differs : FnScope ["first", "second", "first_items", "states"] ["first", "second"] (defScope s_state_that_differs) := ⟨rfl, rfl, rfl, by decide +kernel, rfl, by decide +kernel, by decide +kernel⟩
/-- what decides whether states differ -/
def AllEqB (A B : List Run) : Prop := AllEq (itR A) (itR B)
def spX_state_that_differs (CS CL CE : Addr) : Sp := fun vs H Q E => ∃ (v u : V) (d e : Dat), vs = [v, u] ∧ Rp H v d ∧ d.fits ∧ Rp H u e ∧ e.fits ∧ (BadQ d CS CL H E ∨ (d.shortS ∧ BadQ e CS CL H E) ∨ (d.shortS ∧ e.shortS ∧ (setS (itR d.runs ++ itR e.runs)).length ≤ 20 ∧ (AllEqB d.runs e.runs → ∀ H', Same H H' → E (.ref CE) none H') ∧ (¬ AllEqB d.runs e.runs → ∀ H' x, Same H H' → Q x H')))
theorem okX_state_that_differs {CS CL CE : Addr} (D : Df K mg "state_that_differs" s_state_that_differs) (X1 : Ex K mg "SameEffect" CE) (G_items_of : Has P w K mg base 7 "items_of" ["sequence"] sp_items_of) (GX_items_of : HasX P w K mg base 7 "items_of" ["sequence"] (spX_checked_short_runs CS CL)) (G_first_difference : Has P w K mg base 3 "first_difference" ["first", "second"] sp_first_difference) :
    HasX P w K mg base 8 "state_that_differs" ["first", "second"] (spX_state_that_differs CS CL CE) := by
  refine hasX_of D sc_state_that_differs (fun _ _ _ _ _ _ us hl => match us, hl with | [_, _], _ => rfl) (fun vs H Q E h => ?_) (fun f cdv A₀ outer s₀ H vs Q E hr h => ?_)
  · obtain ⟨_, _, _, _, rfl, _⟩ := h
    rfl
  · obtain ⟨v, u, d, e, rfl, hv, fv, hu, fu, bad⟩ := h
    refine ⟨_, (pss_cons (ps_set (i := 2) sc_state_that_differs.nd rfl (by first | exact Or.inl rfl | exact Or.inr rfl) (pe_callEX G_items_of GX_items_of (takes_of rfl rfl rfl rfl) (hr.mono (by omega)) (hr.mono (by omega)) (by rfl) (pa_cons (pv 0) pa_nil)))
    (pss_cons (ps_set (i := 3) sc_state_that_differs.nd rfl (by first | exact Or.inl rfl | exact Or.inr rfl) (pe_callH G_first_difference (hr.mono (by omega)) (by rfl) (pa_cons (pv 2) (pa_cons (pe_callEX G_items_of GX_items_of (takes_of rfl rfl rfl rfl) (hr.mono (by omega)) (hr.mono (by omega)) (by rfl) (pa_cons (pv 1) pa_nil)) pa_nil))))
    (pss_cons (ps_if (pt_cmpR (op_eqD hr.units) (pv 3) (pe_lst pa_nil) (nomark _)) (pss_one (ps_raise rfl (takes_of rfl rfl rfl rfl) (pmk_own PySem.F.excBase_ValueError X1.x X1.g X1.k (raises_own X1.b X1.t) (by exact rfl)))) pss_nil)
    (pss_one (ps_ret (pe_ix ix_list (pv 3) pe_int (fun _ _ => rfl))))))), ?_⟩
    rcases bad with bad | ⟨sh, bad⟩ | ⟨sh, sh2, s20, qe, qq⟩
    · exact ⟨_, rfl, .inr ⟨v, d, rfl, hv, fv, bad⟩⟩
    · obtain ⟨hR, ok, l4⟩ := short_rp hv sh
      exact ⟨_, rfl, .inl ⟨v, d.runs, rfl, hR, ok, l4, fun H1 a s1 na ha => ⟨_, rfl, _, rfl, .inr ⟨u, e, rfl, hu.same s1, fu, bad.same s1⟩⟩⟩⟩
    · obtain ⟨hR, ok, l4⟩ := short_rp hv sh
      obtain ⟨hR2, ok2, l42⟩ := short_rp hu sh2
      have e1 := len_it d.runs fun r hr => (ok.2.1 r hr).2.1
      have e2 := len_it e.runs fun r hr => (ok2.2.1 r hr).2.1
      refine ⟨_, rfl, .inl ⟨v, d.runs, rfl, hR, ok, l4, fun H1 a s1 na ha => ⟨_, rfl, _, rfl, .inl ⟨u, e.runs, rfl, hR2.same s1, ok2, l42, fun H2 b s2 nb hb => ?_⟩⟩⟩⟩
      refine ⟨a, b, itR d.runs, itR e.runs, rfl, s2 _ _ ha, hb, by omega, by omega, it_kinds fun r hr => (ok.2.1 r hr).1, it_kinds fun r hr => (ok2.2.1 r hr).1, s20, fun H3 p x k n s3 n3 h3 hx kk hn ne => ?_, fun H3 p s3 n3 h3 al => ?_⟩
      · refine ⟨_, rfl, Nat.zero_le _, fun e ne2 => ?_⟩
        have se := same_upd (o := .lst []) ne2
        refine ⟨.list [dOt (withR k n)], .list [], .lst (.of (se _ _ h3)) (.cons (dp_o (hx.same se)) .nil), .lst (.of upd_same) .nil, shaped_oneO kk, shaped_nil, _, rfl, ?_⟩
        rw [eqv_oneN]
        refine iteF ⟨_, rfl, p, _, _, _, rfl, rfl, .of (se _ _ h3), (show atI [x] 0 = some x from rfl), ?_⟩
        exact qq (fun al => ne (al k n hn)) _ x (s1.trans (s2.trans (s3.trans se)))
      · refine ⟨_, rfl, Nat.zero_le _, fun e ne2 => ?_⟩
        have se := same_upd (o := .lst []) ne2
        refine ⟨.list [], .list [], .lst (.of (se _ _ h3)) .nil, .lst (.of upd_same) .nil, shaped_nil, shaped_nil, _, rfl, iteP (by decide +kernel) ?_⟩
        exact qe al _ (s1.trans (s2.trans (s3.trans se)))
def spX_states_before (CS CL CT CN : Addr) : Sp := fun vs H _ E => ∃ (v x u : V) (d e f : Dat), vs = [v, x, u] ∧ Rp H v d ∧ d.fits ∧ Rp H x e ∧ e.fit2 ∧ Rp H u f ∧ f.fitK ∧ (BadQ d CS CL H E ∨ (d.shortS ∧ e.state = false ∧ ∀ H', Same H H' → E (.ref CT) none H') ∨ (d.shortS ∧ e.state = true ∧ f.kinds = false ∧ ∀ H', Same H H' → E (.ref CN) none H'))
theorem okX_states_before {CS CL CT CN : Addr} (D : Df K mg "states_before" s_states_before) (T : Tx mg) (G_items_of : Has P w K mg base 7 "items_of" ["sequence"] sp_items_of) (GX_items_of : HasX P w K mg base 7 "items_of" ["sequence"] (spX_checked_short_runs CS CL)) (GX_checked_state : HasX P w K mg base 3 "checked_state" ["state"] (spX_checked_state CT)) (GX_check_kinds : HasX P w K mg base 3 "check_kinds" ["kinds"] (spX_check_kinds CN))
    (G_endings_of : Has P w K mg base 2 "endings_of" ["items"] sp_endings_of) (G_effects_up_to : Has P w K mg base 2 "effects_up_to" ["items", "endings", "kind", "most"] sp_effects_up_to) (G_shift_of : Has P w K mg base 1 "shift_of" ["items", "kind"] sp_shift_of) :
    HasX P w K mg base 8 "states_before" ["sequence", "state", "kinds"] (spX_states_before CS CL CT CN) := by
  refine hasX_of D sc_states_before (fun _ _ _ _ _ _ us hl => match us, hl with | [_, _, _], _ => rfl) (fun vs H Q E h => ?_) (fun f cdv A outer s₀ H vs Q E hr h => ?_)
  · obtain ⟨_, _, _, _, _, _, rfl, _⟩ := h
    rfl
  · obtain ⟨v, x, u, d, e, f', rfl, hv, fv, hx, fx, hu, fu, bad⟩ := h
    refine ⟨_, (pss_cons (ps_set (i := 3) sc_states_before.nd rfl (by first | exact Or.inl rfl | exact Or.inr rfl) (pe_callEX G_items_of GX_items_of (takes_of rfl rfl rfl rfl) (hr.mono (by omega)) (hr.mono (by omega)) (by rfl) (pa_cons (pv 0) pa_nil)))
    (pss_cons (ps_set (i := 1) sc_states_before.nd rfl (by first | exact Or.inl rfl | exact Or.inr rfl) (pe_callXH GX_checked_state (takes_of rfl rfl rfl rfl) (hr.mono (by omega)) (by rfl) (pa_cons (pv 1) pa_nil)))
    (pss_cons (ps_expr (pe_callXH GX_check_kinds (takes_of rfl rfl rfl rfl) (hr.mono (by omega)) (by rfl) (pa_cons (pv 2) pa_nil)))
    (pss_cons (ps_set (i := 4) sc_states_before.nd rfl (by first | exact Or.inl rfl | exact Or.inr rfl) (pe_callH G_endings_of (hr.mono (by omega)) (by rfl) (pa_cons (pv 3) pa_nil)))
    (pss_cons (ps_set (i := 5) sc_states_before.nd rfl (by first | exact Or.inl rfl | exact Or.inr rfl) (pe_callB call_len_seq (by rfl) T.n_len (by decide +kernel) (pa_cons (pv 3) pa_nil)))
    (C8.pss_cut (ps_set (i := 6) sc_states_before.nd rfl (by first | exact Or.inl rfl | exact Or.inr rfl) (pe_ifExp (pt_cmpR (op_eqD hr.units) (pe_ix ix_list (pv 4) pe_int (fun _ _ => rfl)) (pv 1) (nomark _)) (pe_lst (pa_cons pe_non pa_nil)) (pe_lst pa_nil)))
    (pss_cons (ps_for (passes_of rfl) rfl (pi_seqA 2) (pg_name (i := 7) sc_states_before.nd rfl (by first | exact Or.inl rfl | exact Or.inr rfl))
      (pss_cons (ps_set (i := 8) sc_states_before.nd rfl (by first | exact Or.inl rfl | exact Or.inr rfl) (pe_callH G_effects_up_to (hr.mono (by omega)) (by rfl) (pa_cons (pv 3) (pa_cons (pv 4) (pa_cons (pv 7) (pa_cons (pv 5) pa_nil))))))
    (pss_cons (ps_expr (pe_bm PySem.F.plainAttrs_list PySem.F.slot_list_extend PySem.F.type_list_extend mt_extend (pv 6) (pa_cons (pe_lc (own := [("number", 9)]) rfl sc_states_before.nd (pi_range2 (by rfl) T.n_range (pa_cons pe_int (pa_cons (pe_op op_add (pv 5) pe_int) pa_nil))) (blkOk_by (N := ["sequence", "state", "kinds", "items", "endings", "length", "states", "kind", "effects", "number"]) (sc := defScope s_states_before) (by decide +kernel)) (fun _ _ _ _ _ => (pg_name (i := 9) sc_states_before.nd rfl (by first | exact Or.inl rfl | exact Or.inr rfl))) (fun _ _ _ _ _ => pts_one (pt_cmpR (op_eqDK (K := K) rfl hr.units) (pe_ix (ix_listK (K := K) rfl) (pv 8) (pv 9) (fun _ _ => rfl)) (pv 1) (nomark _))) (fun _ _ _ _ _ => (pe_tup (pa_cons (pv 7) (pa_cons (pv 9) pa_nil))))) pa_nil)))
    (pss_one (ps_if (PW.pt (pw_and (pt_cmpR op_notN (pv 1) pe_non (nomark _)) (pw_and (pt_cmpR op_eq (pe_ix ix_tup (pv 1) pe_int (fun _ _ => rfl)) (pv 7) (nomark _)) (pw_and1 (pt_cmpR op_gt (pe_op op_sub (pe_ix ix_tup (pv 1) pe_int (fun _ _ => rfl)) (pe_callH G_shift_of (hr.mono (by omega)) (by rfl) (pa_cons (pv 3) (pa_cons (pv 7) pa_nil)))) (pv 5) (nomark _)))))) (pss_one (ps_expr (pe_bm PySem.F.plainAttrs_list PySem.F.slot_list_append PySem.F.type_list_append mt_append (pv 6) (pa_cons (pe_tup (pa_cons (pv 7) (pa_cons (pe_op op_sub (pe_ix ix_tup (pv 1) pe_int (fun _ _ => rfl)) (pe_callH G_shift_of (hr.mono (by omega)) (by rfl) (pa_cons (pv 3) (pa_cons (pv 7) pa_nil)))) pa_nil))) pa_nil)))) pss_nil)))))
    (pss_one (ps_ret (pv 6)))))))))), ?_⟩
    rcases bad with bad | bad
    · exact ⟨_, rfl, .inr ⟨v, d, rfl, hv, fv, bad⟩⟩
    rcases bad with ⟨sh, c0, qe⟩ | ⟨sh, cs, c0, qe⟩
    · obtain ⟨hR, ok, l4⟩ := short_rp hv sh
      refine ⟨_, rfl, .inl ⟨v, d.runs, rfl, hR, ok, l4, fun H1 a s1 na ha => ?_⟩⟩
      exact ⟨_, rfl, x, e, rfl, hx.same s1, fx, fun c1 => absurd c1 (by rw [c0]; decide), fun _ H2 s2 => qe _ (s1.trans s2)⟩
    · obtain ⟨hR, ok, l4⟩ := short_rp hv sh
      refine ⟨_, rfl, .inl ⟨v, d.runs, rfl, hR, ok, l4, fun H1 a s1 na ha => ?_⟩⟩
      refine ⟨_, rfl, x, e, rfl, hx.same s1, fx, fun c1 H2 x2 s2 hx2 => ?_, fun c1 => absurd c1 (by rw [cs]; decide)⟩
      exact ⟨_, rfl, u, f', rfl, hu.same (s1.trans s2), fu, fun c1 => absurd c1 (by rw [c0]; decide), fun _ H3 s3 => qe _ (s1.trans (s2.trans s3))⟩
end
end UP

set_option Elab.async false
set_option linter.all false
set_option maxRecDepth 100000
set_option maxHeartbeats 4000000
namespace UP
open PySem PySem.Spec PyProof.Rows L2
/-! ### written values -/
def Lit (σ : L2.St) (H0 : Hp) (t : TE) (d : Dat) : Prop := ∀ H (Q : VK), Same H0 H → (∀ H' v, Same H H' → Rp H' v d → Q v H') → t σ H Q
def Lits (σ : L2.St) (H0 : Hp) (t : TA) (ds : List Dat) : Prop := ∀ H (Q : List V → Hp → Prop), Same H0 H → (∀ H' vs, Same H H' → Paired (Rp H') vs ds → Q vs H') → t σ H Q
section
variable {σ : L2.St} {H0 : Hp}
theorem Lit.go {H : Hp} {t : TE} {d : Dat} {Q : VK} (h : Lit σ H t d) (q : ∀ H' v, Same H H' → Rp H' v d → Q v H') : t σ H Q := h H Q (Same.refl _) q
theorem lit_non : Lit σ H0 (tC .non) .non := fun H Q _ q => q H _ (Same.refl _) .non
theorem lit_int {n : Int} : Lit σ H0 (tC (.int n)) (.int n) := fun H Q _ q => q H _ (Same.refl _) (.int n)
theorem lit_bl {b : Bool} : Lit σ H0 (tC (.bl b)) (.bl b) := fun H Q _ q => q H _ (Same.refl _) (.bl b)
theorem lit_str {z : Str} : Lit σ H0 (tC (.str z)) (.str z) := fun H Q _ q => q H _ (Same.refl _) (.str z)
theorem lit_dic : Lit σ H0 tDNewK .dic := fun H Q _ q p np => q _ _ (same_upd np) (.dic upd_same)
theorem lit_var {i : Nat} {v : V} {d : Dat} (e : σ[i]? = some (some v)) (h : Rp H0 v d) : Lit σ H0 (tVar i) d := fun H Q s q => ⟨v, e, q H v (Same.refl _) (h.same s)⟩
theorem lit_val {t : TE} {v : V} {d : Dat} (h : ∀ H (Q : VK), Q v H → t σ H Q) (r : ∀ H, Rp H v d) : Lit σ H0 t d := fun H Q _ q => h H Q (q H v (Same.refl _) (r H))
theorem lits_nil : Lits σ H0 tNil [] := fun H Q _ q => q H [] (Same.refl _) .nil
theorem lits_cons {t : TE} {ts : TA} {d : Dat} {ds : List Dat} (h1 : Lit σ H0 t d) (h2 : Lits σ H0 ts ds) : Lits σ H0 (tCons t ts) (d :: ds) := fun H Q s q => h1 H _ s fun H1 v s1 r1 => h2 H1 _ (s.trans s1) fun H2 vs s2 r2 => q H2 (v :: vs) (s1.trans s2) (.cons (r1.same s2) r2)
theorem rps_same {H H' : Hp} {xs : List V} {ds : List Dat} (s : Same H H') (h : Paired (Rp H) xs ds) : Paired (Rp H') xs ds := Paired.imp (fun _ _ => Rp.same s) h
theorem lit_lst {ts : TA} {ds : List Dat} (h : Lits σ H0 ts ds) (l : ds.length ≤ 1000) : Lit σ H0 (tLst ts) (.lst ds) := fun H Q s q => h H _ s fun H1 vs s1 r => ⟨by rw [Paired.len r]; exact smallE (by omega), fun p np => q _ _ (s1.trans (same_upd np)) (.lst upd_same (rps_same (same_upd np) r))⟩
theorem lit_tup {ts : TA} {ds : List Dat} (h : Lits σ H0 ts ds) (l : ds.length ≤ 1000) : Lit σ H0 (tTup ts) (.tup ds) := fun H Q s q => h H _ s fun H1 vs s1 r => ⟨by rw [Paired.len r]; exact smallE (by omega), fun p np => q _ _ (s1.trans (same_upd np)) (.tup upd_same (rps_same (same_upd np) r))⟩
theorem lit_cat {t u : TE} {a b : List Dat} (h1 : Lit σ H0 t (.lst a)) (h2 : Lit σ H0 u (.lst b)) (l : a.length + b.length ≤ 1000) : Lit σ H0 (tOp rCat t u) (.lst (a ++ b)) := fun H Q s q => h1 H _ s fun H1 v s1 r1 => h2 H1 _ (s.trans s1) fun H2 w s2 r2 => by
  cases r1.same s2 with
  | lst e1 p1 =>
    cases r2 with
    | lst e2 p2 =>
      refine ⟨_, _, _, _, rfl, rfl, e1, e2, ?_, fun p np => q _ _ (s1.trans (s2.trans (same_upd np))) (.lst upd_same (rps_same (same_upd np) (Paired.app p1 p2)))⟩
      rw [Paired.len p1, Paired.len p2]
      exact smallE (by omega)
theorem rep_pair {α β : Type} {F : α → β → Prop} {xs : List α} {ys : List β} (h : Paired F xs ys) : ∀ n : Nat, Paired F (List.replicate n xs).flatten (List.replicate n ys).flatten
  | 0 => .nil
  | n + 1 => by
    rw [List.replicate_succ, List.replicate_succ, List.flatten_cons, List.flatten_cons]
    exact Paired.app h (rep_pair h n)
theorem lit_rep {t : TE} {a : List Dat} {k : Int} (h1 : Lit σ H0 t (.lst a)) (k0 : 0 ≤ k) (k1 : k ≤ 1000) (l : a.length * k.toNat ≤ 1000) : Lit σ H0 (tOp rRep t (tC (.int k))) (.lst (List.replicate k.toNat a).flatten) := fun H Q s q => h1 H _ s fun H1 v s1 r1 => by
  cases r1 with
  | lst e1 p1 =>
    refine ⟨_, k, _, rfl, rfl, e1, by omega, by omega, ?_, fun p np => q _ _ (s1.trans (same_upd np)) (.lst upd_same (rps_same (same_upd np) (rep_pair p1 _)))⟩
    rw [Paired.len p1]
    exact smallE (by omega)
end
/-- an index into a written list -/
theorem rp_at {H : Hp} {v : V} {ds : List Dat} {i : Int} (h : Rp H v (.lst ds)) (i0 : 0 ≤ i) (i1 : i.toNat < ds.length) : ∃ a xs x, v = .ref a ∧ H a = some (.lst xs) ∧ atI xs i = some x ∧ Rp H x ds[i.toNat] := by
  cases h with
  | lst e p =>
    obtain ⟨x, ex, hx⟩ := Paired.at' p (List.getElem?_eq_getElem i1)
    exact ⟨_, _, x, rfl, e, atI_ofR i0 ex, hx⟩
theorem lit_set {t : TE} {d : Dat} {i : Nat} {D : Ends} {rest : TS} {σ : L2.St} {H : Hp} (h : Lit σ H t d) (q : ∀ H' v, Same H H' → Rp H' v d → rest D (σ.set i (some v)) H') : tSeq (tAsg t (gName i)) rest D σ H := h H _ (Same.refl _) q
theorem lit_retIx {K : PySem.W.Frag} {t u : TE} {ds : List Dat} {D : Ends} {σ : L2.St} {H : Hp} (h : Lit σ H t (.lst ds)) (q : ∀ H' v, Same H H' → Rp H' v (.lst ds) → u σ H' (fun y H2 => rIxL K v y H2 D.rt)) : tRet (tOp (rIxL K) t u) D σ H := h H _ (Same.refl _) q
end UP

set_option Elab.async false
set_option linter.all false
set_option maxRecDepth 100000
set_option maxHeartbeats 4000000
namespace UP
open PySem PySem.Spec PyProof.Rows L2
/-! ### values that are new -/
/-- the part of the heap that is new since H0 -/
def newH (H0 H : Hp) : Hp := fun b => match H0 b with
  | none => H b
  | some _ => none
theorem newH_at {H0 H : Hp} {b : Addr} (h : H0 b = none) : newH H0 H b = H b := by
  unfold newH
  rw [h]
theorem newH_old {H0 H : Hp} {b : Addr} {o : HO} (h : H0 b = some o) : newH H0 H b = none := by
  unfold newH
  rw [h]
theorem newH_sub {H0 H : Hp} : Same (newH H0 H) H := fun b o e => by
  cases h : H0 b with
  | none => rw [newH_at h] at e; exact e
  | some o' => rw [newH_old h] at e; cases e
theorem newH_same {H0 H H' : Hp} (s : Same H H') : Same (newH H0 H) (newH H0 H') := fun b o e => by
  cases h : H0 b with
  | none => rw [newH_at h] at e ⊢; exact s _ _ e
  | some o' => rw [newH_old h] at e; cases e
theorem newH_upd {H0 H : Hp} {p : Addr} {o : HO} (h : H0 p = none) : newH H0 (upd H p o) p = some o := by
  rw [newH_at h, upd_same]
/-- an old address may change -/
theorem newH_skip {H0 H : Hp} {G : Addr} {o u : HO} (h : H0 G = some u) : newH H0 (upd H G o) = newH H0 H := by
  funext b
  by_cases e : b = G
  · rw [e, newH_old h, newH_old h]
  · unfold newH
    rw [upd_ne e]
theorem Rp.keepG {H0 H : Hp} {G : Addr} {o u : HO} {v : V} {d : Dat} (h : H0 G = some u) (r : Rp (newH H0 H) v d) : Rp (upd H G o) v d := by
  rw [← newH_skip (o := o) h] at r
  exact r.same newH_sub
def LitF (σ : L2.St) (H0 Hs : Hp) (t : TE) (d : Dat) : Prop := ∀ H (Q : VK), Same H0 H → Same Hs H → (∀ H' v, Same H H' → Rp (newH H0 H') v d → Q v H') → t σ H Q
def LitsF (σ : L2.St) (H0 Hs : Hp) (t : TA) (ds : List Dat) : Prop := ∀ H (Q : List V → Hp → Prop), Same H0 H → Same Hs H → (∀ H' vs, Same H H' → Paired (Rp (newH H0 H')) vs ds → Q vs H') → t σ H Q
section
variable {σ : L2.St} {H0 Hs : Hp}
theorem litF_val {t : TE} {v : V} {d : Dat} (h : ∀ H (Q : VK), Q v H → t σ H Q) (r : ∀ H, Rp H v d) : LitF σ H0 Hs t d := fun H Q _ _ q => h H Q (q H v (Same.refl _) (r _))
theorem litF_non : LitF σ H0 Hs (tC .non) .non := litF_val (fun _ _ q => q) (fun _ => .non)
theorem litF_int {n : Int} : LitF σ H0 Hs (tC (.int n)) (.int n) := litF_val (fun _ _ q => q) (fun _ => .int n)
theorem litF_bl {b : Bool} : LitF σ H0 Hs (tC (.bl b)) (.bl b) := litF_val (fun _ _ q => q) (fun _ => .bl b)
theorem litF_str {z : Str} : LitF σ H0 Hs (tC (.str z)) (.str z) := litF_val (fun _ _ q => q) (fun _ => .str z)
theorem litF_dic : LitF σ H0 Hs tDNewK .dic := fun H Q s _ q p np => q _ _ (same_upd np) (.dic (newH_upd (s.free np)))
theorem litsF_nil : LitsF σ H0 Hs tNil [] := fun H Q _ _ q => q H [] (Same.refl _) .nil
theorem litsF_cons {t : TE} {ts : TA} {d : Dat} {ds : List Dat} (h1 : LitF σ H0 Hs t d) (h2 : LitsF σ H0 Hs ts ds) : LitsF σ H0 Hs (tCons t ts) (d :: ds) := fun H Q s t q => h1 H _ s t fun H1 v s1 r1 => h2 H1 _ (s.trans s1) (t.trans s1) fun H2 vs s2 r2 => q H2 (v :: vs) (s1.trans s2) (.cons (r1.same (newH_same s2)) r2)
theorem litF_lst {ts : TA} {ds : List Dat} (h : LitsF σ H0 Hs ts ds) (l : ds.length ≤ 1000) : LitF σ H0 Hs (tLst ts) (.lst ds) := fun H Q s t q => h H _ s t fun H1 vs s1 r => ⟨by rw [Paired.len r]; exact smallE (by omega), fun p np => q _ _ (s1.trans (same_upd np)) (.lst (newH_upd ((s.trans s1).free np)) (rps_same (newH_same (same_upd np)) r))⟩
theorem litF_tup {ts : TA} {ds : List Dat} (h : LitsF σ H0 Hs ts ds) (l : ds.length ≤ 1000) : LitF σ H0 Hs (tTup ts) (.tup ds) := fun H Q s t q => h H _ s t fun H1 vs s1 r => ⟨by rw [Paired.len r]; exact smallE (by omega), fun p np => q _ _ (s1.trans (same_upd np)) (.tup (newH_upd ((s.trans s1).free np)) (rps_same (newH_same (same_upd np)) r))⟩
theorem litF_var {i : Nat} {v : V} {d : Dat} (e : σ[i]? = some (some v)) (h : Rp (newH H0 Hs) v d) : LitF σ H0 Hs (tVar i) d := fun H Q _ s q => ⟨v, e, q H v (Same.refl _) (h.same (newH_same s))⟩
theorem litF_cat {t u : TE} {a b : List Dat} (h1 : LitF σ H0 Hs t (.lst a)) (h2 : LitF σ H0 Hs u (.lst b)) (l : a.length + b.length ≤ 1000) : LitF σ H0 Hs (tOp rCat t u) (.lst (a ++ b)) := fun H Q s w q => h1 H _ s w fun H1 v s1 r1 => h2 H1 _ (s.trans s1) (w.trans s1) fun H2 x s2 r2 => by
  cases r1.same (newH_same s2) with
  | lst e1 p1 =>
    cases r2 with
    | lst e2 p2 =>
      refine ⟨_, _, _, _, rfl, rfl, newH_sub _ _ e1, newH_sub _ _ e2, ?_, fun p np => q _ _ (s1.trans (s2.trans (same_upd np))) (.lst (newH_upd ((s.trans (s1.trans s2)).free np)) (rps_same (newH_same (same_upd np)) (Paired.app p1 p2)))⟩
      rw [Paired.len p1, Paired.len p2]
      exact smallE (by omega)
end
theorem litF_set {t : TE} {d : Dat} {i : Nat} {D : Ends} {rest : TS} {σ : L2.St} {H0 H : Hp} (s : Same H0 H) (h : LitF σ H0 H t d) (q : ∀ H' v, Same H H' → Rp (newH H0 H') v d → rest D (σ.set i (some v)) H') : tSeq (tAsg t (gName i)) rest D σ H := h H _ s (Same.refl _) q
theorem litF_retIx {K : PySem.W.Frag} {t u : TE} {ds : List Dat} {D : Ends} {σ : L2.St} {H0 H : Hp} (s : Same H0 H) (h : LitF σ H0 H t (.lst ds)) (q : ∀ H' v, Same H H' → Rp (newH H0 H') v (.lst ds) → u σ H' (fun y H2 => rIxL K v y H2 D.rt)) : tRet (tOp (rIxL K) t u) D σ H := h H _ s (Same.refl _) q
theorem litF_setIx {K : PySem.W.Frag} {t u : TE} {ds : List Dat} {i : Nat} {D : Ends} {rest : TS} {σ : L2.St} {H0 H : Hp} (s : Same H0 H) (h : LitF σ H0 H t (.lst ds)) (q : ∀ H' v, Same H H' → Rp (newH H0 H') v (.lst ds) → u σ H' (fun y H2 => rIxL K v y H2 (fun x H3 => rest D (σ.set i (some x)) H3))) : tSeq (tAsg (tOp (rIxL K) t u) (gName i)) rest D σ H := h H _ s (Same.refl _) q
end UP

set_option Elab.async false
set_option linter.all false
set_option maxRecDepth 100000
set_option maxHeartbeats 4000000
namespace UP
open PySem PySem.Spec PyProof.Rows L2
def tpD (p : Str × Bool) : Dat := .tup [.str p.1, .bl p.2]
def nlist (nm : Str) : List (Str × Bool) := [("sequence", decide (("InvalidSequence" : Str) = nm)), ("state", decide (("InvalidState" : Str) = nm)), ("kind", decide (("InvalidKind" : Str) = nm)), ("kinds", decide (("InvalidKinds" : Str) = nm)), ("items", decide (("InvalidItems" : Str) = nm)), ("number", decide (("InvalidNumber" : Str) = nm)), ("effects", decide (("InvalidEffects" : Str) = nm)), ("counts", decide (("InvalidCounts" : Str) = nm)), ("long", decide (("TooLong" : Str) = nm)), ("many", decide (("TooMany" : Str) = nm)), ("impossible", decide (("Impossible" : Str) = nm)), ("same", decide (("SameEffect" : Str) = nm)), ("odd", decide (("InvalidPosition" : Str) = nm)), ("odd", decide (("InvalidRecord" : Str) = nm)), ("odd", decide (("InvalidCommand" : Str) = nm)), ("odd", decide (("InvalidText" : Str) = nm)), ("odd", decide (("Contradiction" : Str) = nm)), ("odd", decide (("NothingToUndo" : Str) = nm))]
def nameOf (nm : Str) : Str := (((nlist nm).filter (·.2)).map (·.1)).headD ""
theorem name_one : ∀ nm ∈ six ++ (oddA ++ oddB), ((nlist nm).filter (·.2)).map (·.1) = [nameOf nm] := by decide +kernel
theorem lit_is {K : PySem.W.Frag} {σ : L2.St} {H0 : Hp} {a D c : Addr} {b : Bool} (e : σ[0]? = some (some (.ref a))) (hE : H0 a = some (ExK (.ref D) a)) (C : ExcC K D) (k : PySem.W.kitOne K (.ref D) (.ref c) = some b) : Lit σ H0 (tCB (rIsK K) (tCons (tVar 0) (tCons (tC (.ref c)) tNil))) (.bl b) := fun H Q s q =>
  ⟨_, e, a, D, _, _, b, rfl, s _ _ hE, C, (fun u r => r), k, q H _ (Same.refl _) (.bl b)⟩
theorem tp_at {H : Hp} {v : V} {l : List (Str × Bool)} (h : Rp H v (.lst (l.map tpD))) : ∃ a xs, v = .ref a ∧ H a = some (.lst xs) ∧ xs.length = l.length ∧ ∀ (i : Nat) (x : V), xs[i]? = some x → ∃ p t, l[i]? = some p ∧ x = .ref t ∧ H t = some (.tup [.str p.1, .bl p.2]) := by
  cases h with
  | lst e p =>
    refine ⟨_, _, rfl, e, by rw [Paired.len p, List.length_map], fun i x ex => ?_⟩
    obtain ⟨d, ed, hd⟩ := Paired.at p ex
    rw [List.getElem?_map] at ed
    cases hl : l[i]? with
    | none => rw [hl] at ed; cases ed
    | some q =>
      rw [hl] at ed
      have ed : tpD q = d := Option.some.inj ed
      subst ed
      cases hd with
      | tup e2 p2 =>
        cases p2 with
        | cons h1 p3 =>
          cases h1
          cases p3 with
          | cons h2 p4 =>
            cases h2
            cases p4
            exact ⟨q, _, rfl, rfl, e2⟩
section
variable {P : Program} {w : World} {K : PySem.W.Frag} {mg : Str → Option Value} {base : Heap}
/-! _law_kind_of: slots 0:e 1:names 2:found 3:name 4:is_one -/
abbrev s_law_kind_of : Stmt := topS 66
theorem sc_law_kind_of : FnScope ["e", "names", "found", "name", "is_one"] ["e"] (defScope s_law_kind_of) := ⟨rfl, rfl, rfl, by decide +kernel, rfl, by decide +kernel, by decide +kernel⟩
def sp_law_kind_of (K : PySem.W.Frag) (CA : Str → Addr) : Sp := fun vs H Q _ => ∃ (a : Addr) (nm : Str), vs = [.ref a] ∧ H a = some (ExK (.ref (CA nm)) a) ∧ ClsF K CA nm ∧ nm ∈ six ++ (oddA ++ oddB) ∧ ∀ H', Same H H' → Q (.str (nameOf nm)) H'
theorem ok_law_kind_of {CA : Str → Addr} (D : Df K mg "_law_kind_of" s_law_kind_of) (T : Tx mg) (CM : Cmg mg CA) : Has P w K mg base 1 "_law_kind_of" ["e"] (sp_law_kind_of K CA) := by
  refine has_of D sc_law_kind_of (fun _ _ _ _ _ _ us hl => match us, hl with | [_], _ => rfl) (fun vs H Q E h => ?_) (fun f cdv A outer s₀ H vs Q E hr h => ?_)
  · obtain ⟨_, _, rfl, _⟩ := h
    rfl
  · obtain ⟨a, nm, rfl, hE, C, hn, q⟩ := h
    have ki : ∀ n, n ∈ six ++ (oddA ++ oddB) → PySem.W.kitOne K (.ref (CA nm)) (.ref (CA n)) = some (decide (n = nm)) := C.ki
    refine ⟨_, (pss_cons (ps_set (i := 1) sc_law_kind_of.nd rfl (by first | exact Or.inl rfl | exact Or.inr rfl) (pe_lst (pa_cons (pe_tup (pa_cons pe_str (pa_cons (pe_callB call_isK (by rfl) T.n_isinstance (by decide +kernel) (pa_cons (pv 0) (pa_cons (pe_glob (v := .ref (CA "InvalidSequence")) (by rfl) (CM.all "InvalidSequence" (by decide)) rfl) pa_nil))) pa_nil))) (pa_cons (pe_tup (pa_cons pe_str (pa_cons (pe_callB call_isK (by rfl) T.n_isinstance (by decide +kernel) (pa_cons (pv 0) (pa_cons (pe_glob (v := .ref (CA "InvalidState")) (by rfl) (CM.all "InvalidState" (by decide)) rfl) pa_nil))) pa_nil))) pa_nil))))
    (pss_cons (ps_set (i := 1) sc_law_kind_of.nd rfl (by first | exact Or.inl rfl | exact Or.inr rfl) (pe_op op_cat (pv 1) (pe_lst (pa_cons (pe_tup (pa_cons pe_str (pa_cons (pe_callB call_isK (by rfl) T.n_isinstance (by decide +kernel) (pa_cons (pv 0) (pa_cons (pe_glob (v := .ref (CA "InvalidKind")) (by rfl) (CM.all "InvalidKind" (by decide)) rfl) pa_nil))) pa_nil))) (pa_cons (pe_tup (pa_cons pe_str (pa_cons (pe_callB call_isK (by rfl) T.n_isinstance (by decide +kernel) (pa_cons (pv 0) (pa_cons (pe_glob (v := .ref (CA "InvalidKinds")) (by rfl) (CM.all "InvalidKinds" (by decide)) rfl) pa_nil))) pa_nil))) pa_nil)))))
    (pss_cons (ps_set (i := 1) sc_law_kind_of.nd rfl (by first | exact Or.inl rfl | exact Or.inr rfl) (pe_op op_cat (pv 1) (pe_lst (pa_cons (pe_tup (pa_cons pe_str (pa_cons (pe_callB call_isK (by rfl) T.n_isinstance (by decide +kernel) (pa_cons (pv 0) (pa_cons (pe_glob (v := .ref (CA "InvalidItems")) (by rfl) (CM.all "InvalidItems" (by decide)) rfl) pa_nil))) pa_nil))) (pa_cons (pe_tup (pa_cons pe_str (pa_cons (pe_callB call_isK (by rfl) T.n_isinstance (by decide +kernel) (pa_cons (pv 0) (pa_cons (pe_glob (v := .ref (CA "InvalidNumber")) (by rfl) (CM.all "InvalidNumber" (by decide)) rfl) pa_nil))) pa_nil))) pa_nil)))))
    (pss_cons (ps_set (i := 1) sc_law_kind_of.nd rfl (by first | exact Or.inl rfl | exact Or.inr rfl) (pe_op op_cat (pv 1) (pe_lst (pa_cons (pe_tup (pa_cons pe_str (pa_cons (pe_callB call_isK (by rfl) T.n_isinstance (by decide +kernel) (pa_cons (pv 0) (pa_cons (pe_glob (v := .ref (CA "InvalidEffects")) (by rfl) (CM.all "InvalidEffects" (by decide)) rfl) pa_nil))) pa_nil))) (pa_cons (pe_tup (pa_cons pe_str (pa_cons (pe_callB call_isK (by rfl) T.n_isinstance (by decide +kernel) (pa_cons (pv 0) (pa_cons (pe_glob (v := .ref (CA "InvalidCounts")) (by rfl) (CM.all "InvalidCounts" (by decide)) rfl) pa_nil))) pa_nil))) pa_nil)))))
    (pss_cons (ps_set (i := 1) sc_law_kind_of.nd rfl (by first | exact Or.inl rfl | exact Or.inr rfl) (pe_op op_cat (pv 1) (pe_lst (pa_cons (pe_tup (pa_cons pe_str (pa_cons (pe_callB call_isK (by rfl) T.n_isinstance (by decide +kernel) (pa_cons (pv 0) (pa_cons (pe_glob (v := .ref (CA "TooLong")) (by rfl) (CM.all "TooLong" (by decide)) rfl) pa_nil))) pa_nil))) (pa_cons (pe_tup (pa_cons pe_str (pa_cons (pe_callB call_isK (by rfl) T.n_isinstance (by decide +kernel) (pa_cons (pv 0) (pa_cons (pe_glob (v := .ref (CA "TooMany")) (by rfl) (CM.all "TooMany" (by decide)) rfl) pa_nil))) pa_nil))) pa_nil)))))
    (pss_cons (ps_set (i := 1) sc_law_kind_of.nd rfl (by first | exact Or.inl rfl | exact Or.inr rfl) (pe_op op_cat (pv 1) (pe_lst (pa_cons (pe_tup (pa_cons pe_str (pa_cons (pe_callB call_isK (by rfl) T.n_isinstance (by decide +kernel) (pa_cons (pv 0) (pa_cons (pe_glob (v := .ref (CA "Impossible")) (by rfl) (CM.all "Impossible" (by decide)) rfl) pa_nil))) pa_nil))) (pa_cons (pe_tup (pa_cons pe_str (pa_cons (pe_callB call_isK (by rfl) T.n_isinstance (by decide +kernel) (pa_cons (pv 0) (pa_cons (pe_glob (v := .ref (CA "SameEffect")) (by rfl) (CM.all "SameEffect" (by decide)) rfl) pa_nil))) pa_nil))) pa_nil)))))
    (pss_cons (ps_set (i := 1) sc_law_kind_of.nd rfl (by first | exact Or.inl rfl | exact Or.inr rfl) (pe_op op_cat (pv 1) (pe_lst (pa_cons (pe_tup (pa_cons pe_str (pa_cons (pe_callB call_isK (by rfl) T.n_isinstance (by decide +kernel) (pa_cons (pv 0) (pa_cons (pe_glob (v := .ref (CA "InvalidPosition")) (by rfl) (CM.all "InvalidPosition" (by decide)) rfl) pa_nil))) pa_nil))) (pa_cons (pe_tup (pa_cons pe_str (pa_cons (pe_callB call_isK (by rfl) T.n_isinstance (by decide +kernel) (pa_cons (pv 0) (pa_cons (pe_glob (v := .ref (CA "InvalidRecord")) (by rfl) (CM.all "InvalidRecord" (by decide)) rfl) pa_nil))) pa_nil))) pa_nil)))))
    (pss_cons (ps_set (i := 1) sc_law_kind_of.nd rfl (by first | exact Or.inl rfl | exact Or.inr rfl) (pe_op op_cat (pv 1) (pe_lst (pa_cons (pe_tup (pa_cons pe_str (pa_cons (pe_callB call_isK (by rfl) T.n_isinstance (by decide +kernel) (pa_cons (pv 0) (pa_cons (pe_glob (v := .ref (CA "InvalidCommand")) (by rfl) (CM.all "InvalidCommand" (by decide)) rfl) pa_nil))) pa_nil))) (pa_cons (pe_tup (pa_cons pe_str (pa_cons (pe_callB call_isK (by rfl) T.n_isinstance (by decide +kernel) (pa_cons (pv 0) (pa_cons (pe_glob (v := .ref (CA "InvalidText")) (by rfl) (CM.all "InvalidText" (by decide)) rfl) pa_nil))) pa_nil))) pa_nil)))))
    (pss_cons (ps_set (i := 1) sc_law_kind_of.nd rfl (by first | exact Or.inl rfl | exact Or.inr rfl) (pe_op op_cat (pv 1) (pe_lst (pa_cons (pe_tup (pa_cons pe_str (pa_cons (pe_callB call_isK (by rfl) T.n_isinstance (by decide +kernel) (pa_cons (pv 0) (pa_cons (pe_glob (v := .ref (CA "Contradiction")) (by rfl) (CM.all "Contradiction" (by decide)) rfl) pa_nil))) pa_nil))) (pa_cons (pe_tup (pa_cons pe_str (pa_cons (pe_callB call_isK (by rfl) T.n_isinstance (by decide +kernel) (pa_cons (pv 0) (pa_cons (pe_glob (v := .ref (CA "NothingToUndo")) (by rfl) (CM.all "NothingToUndo" (by decide)) rfl) pa_nil))) pa_nil))) pa_nil)))))
    (pss_cons (ps_setLc (i := 2) (own := [("name", 3), ("is_one", 4)]) rfl sc_law_kind_of.nd rfl rfl (sw_true rfl rfl rfl (by decide +kernel)) (pi_list (pv 1)) (blkOk_by (N := ["e", "names", "found", "name", "is_one"]) (sc := defScope s_law_kind_of) (by decide +kernel)) (fun _ _ _ _ _ => (pg_tupK (K := K) (n := 2) rfl rfl (pgs_cons (pg_name (i := 3) sc_law_kind_of.nd rfl (by first | exact Or.inl rfl | exact Or.inr rfl)) (pgs_cons (pg_name (i := 4) sc_law_kind_of.nd rfl (by first | exact Or.inl rfl | exact Or.inr rfl)) pgs_nil)))) (fun _ _ _ _ _ => pts_one (pt_val (pv 4))) (fun _ _ _ _ _ => (pv 3)))
    (pss_one (ps_ret (pe_ifExp (PW.pt (pw_and (pt_cmpR op_eq (pe_callB call_len_seq (by rfl) T.n_len (by decide +kernel) (pa_cons (pv 2) pa_nil)) pe_int (nomark _)) (pw_and1 (pt_val (pe_callB call_isK (by rfl) T.n_isinstance (by decide +kernel) (pa_cons (pv 0) (pa_cons (pe_bltn (v := .ty "ValueError") (by rfl) T.n_ValueError (by decide +kernel) rfl) pa_nil))))))) (pe_ix ix_list (pv 2) pe_int (fun _ _ => rfl)) pe_str))))))))))))), ?_⟩
    refine lit_set (d := .lst [.tup [.str "sequence", .bl (decide (("InvalidSequence" : Str) = nm))], .tup [.str "state", .bl (decide (("InvalidState" : Str) = nm))]]) (lit_lst (lits_cons (lit_tup (lits_cons lit_str (lits_cons (lit_is rfl hE C.ex (ki "InvalidSequence" (by decide +kernel))) lits_nil)) (Nat.le_of_ble_eq_true rfl)) (lits_cons (lit_tup (lits_cons lit_str (lits_cons (lit_is rfl hE C.ex (ki "InvalidState" (by decide +kernel))) lits_nil)) (Nat.le_of_ble_eq_true rfl)) lits_nil)) (Nat.le_of_ble_eq_true rfl)) (fun H1 v1 s1 r1 => ?_)
    have hE1 := s1 _ _ hE
    refine lit_set (d := .lst ([.tup [.str "sequence", .bl (decide (("InvalidSequence" : Str) = nm))], .tup [.str "state", .bl (decide (("InvalidState" : Str) = nm))]] ++ [.tup [.str "kind", .bl (decide (("InvalidKind" : Str) = nm))], .tup [.str "kinds", .bl (decide (("InvalidKinds" : Str) = nm))]])) (lit_cat (lit_var rfl r1) (lit_lst (lits_cons (lit_tup (lits_cons lit_str (lits_cons (lit_is rfl hE1 C.ex (ki "InvalidKind" (by decide +kernel))) lits_nil)) (Nat.le_of_ble_eq_true rfl)) (lits_cons (lit_tup (lits_cons lit_str (lits_cons (lit_is rfl hE1 C.ex (ki "InvalidKinds" (by decide +kernel))) lits_nil)) (Nat.le_of_ble_eq_true rfl)) lits_nil)) (Nat.le_of_ble_eq_true rfl)) (Nat.le_of_ble_eq_true rfl)) (fun H2 v2 s2 r2 => ?_)
    have hE2 := s2 _ _ hE1
    refine lit_set (d := .lst (([.tup [.str "sequence", .bl (decide (("InvalidSequence" : Str) = nm))], .tup [.str "state", .bl (decide (("InvalidState" : Str) = nm))]] ++ [.tup [.str "kind", .bl (decide (("InvalidKind" : Str) = nm))], .tup [.str "kinds", .bl (decide (("InvalidKinds" : Str) = nm))]]) ++ [.tup [.str "items", .bl (decide (("InvalidItems" : Str) = nm))], .tup [.str "number", .bl (decide (("InvalidNumber" : Str) = nm))]])) (lit_cat (lit_var rfl r2) (lit_lst (lits_cons (lit_tup (lits_cons lit_str (lits_cons (lit_is rfl hE2 C.ex (ki "InvalidItems" (by decide +kernel))) lits_nil)) (Nat.le_of_ble_eq_true rfl)) (lits_cons (lit_tup (lits_cons lit_str (lits_cons (lit_is rfl hE2 C.ex (ki "InvalidNumber" (by decide +kernel))) lits_nil)) (Nat.le_of_ble_eq_true rfl)) lits_nil)) (Nat.le_of_ble_eq_true rfl)) (Nat.le_of_ble_eq_true rfl)) (fun H3 v3 s3 r3 => ?_)
    have hE3 := s3 _ _ hE2
    refine lit_set (d := .lst ((([.tup [.str "sequence", .bl (decide (("InvalidSequence" : Str) = nm))], .tup [.str "state", .bl (decide (("InvalidState" : Str) = nm))]] ++ [.tup [.str "kind", .bl (decide (("InvalidKind" : Str) = nm))], .tup [.str "kinds", .bl (decide (("InvalidKinds" : Str) = nm))]]) ++ [.tup [.str "items", .bl (decide (("InvalidItems" : Str) = nm))], .tup [.str "number", .bl (decide (("InvalidNumber" : Str) = nm))]]) ++ [.tup [.str "effects", .bl (decide (("InvalidEffects" : Str) = nm))], .tup [.str "counts", .bl (decide (("InvalidCounts" : Str) = nm))]])) (lit_cat (lit_var rfl r3) (lit_lst (lits_cons (lit_tup (lits_cons lit_str (lits_cons (lit_is rfl hE3 C.ex (ki "InvalidEffects" (by decide +kernel))) lits_nil)) (Nat.le_of_ble_eq_true rfl)) (lits_cons (lit_tup (lits_cons lit_str (lits_cons (lit_is rfl hE3 C.ex (ki "InvalidCounts" (by decide +kernel))) lits_nil)) (Nat.le_of_ble_eq_true rfl)) lits_nil)) (Nat.le_of_ble_eq_true rfl)) (Nat.le_of_ble_eq_true rfl)) (fun H4 v4 s4 r4 => ?_)
    have hE4 := s4 _ _ hE3
    refine lit_set (d := .lst (((([.tup [.str "sequence", .bl (decide (("InvalidSequence" : Str) = nm))], .tup [.str "state", .bl (decide (("InvalidState" : Str) = nm))]] ++ [.tup [.str "kind", .bl (decide (("InvalidKind" : Str) = nm))], .tup [.str "kinds", .bl (decide (("InvalidKinds" : Str) = nm))]]) ++ [.tup [.str "items", .bl (decide (("InvalidItems" : Str) = nm))], .tup [.str "number", .bl (decide (("InvalidNumber" : Str) = nm))]]) ++ [.tup [.str "effects", .bl (decide (("InvalidEffects" : Str) = nm))], .tup [.str "counts", .bl (decide (("InvalidCounts" : Str) = nm))]]) ++ [.tup [.str "long", .bl (decide (("TooLong" : Str) = nm))], .tup [.str "many", .bl (decide (("TooMany" : Str) = nm))]])) (lit_cat (lit_var rfl r4) (lit_lst (lits_cons (lit_tup (lits_cons lit_str (lits_cons (lit_is rfl hE4 C.ex (ki "TooLong" (by decide +kernel))) lits_nil)) (Nat.le_of_ble_eq_true rfl)) (lits_cons (lit_tup (lits_cons lit_str (lits_cons (lit_is rfl hE4 C.ex (ki "TooMany" (by decide +kernel))) lits_nil)) (Nat.le_of_ble_eq_true rfl)) lits_nil)) (Nat.le_of_ble_eq_true rfl)) (Nat.le_of_ble_eq_true rfl)) (fun H5 v5 s5 r5 => ?_)
    have hE5 := s5 _ _ hE4
    refine lit_set (d := .lst ((((([.tup [.str "sequence", .bl (decide (("InvalidSequence" : Str) = nm))], .tup [.str "state", .bl (decide (("InvalidState" : Str) = nm))]] ++ [.tup [.str "kind", .bl (decide (("InvalidKind" : Str) = nm))], .tup [.str "kinds", .bl (decide (("InvalidKinds" : Str) = nm))]]) ++ [.tup [.str "items", .bl (decide (("InvalidItems" : Str) = nm))], .tup [.str "number", .bl (decide (("InvalidNumber" : Str) = nm))]]) ++ [.tup [.str "effects", .bl (decide (("InvalidEffects" : Str) = nm))], .tup [.str "counts", .bl (decide (("InvalidCounts" : Str) = nm))]]) ++ [.tup [.str "long", .bl (decide (("TooLong" : Str) = nm))], .tup [.str "many", .bl (decide (("TooMany" : Str) = nm))]]) ++ [.tup [.str "impossible", .bl (decide (("Impossible" : Str) = nm))], .tup [.str "same", .bl (decide (("SameEffect" : Str) = nm))]])) (lit_cat (lit_var rfl r5) (lit_lst (lits_cons (lit_tup (lits_cons lit_str (lits_cons (lit_is rfl hE5 C.ex (ki "Impossible" (by decide +kernel))) lits_nil)) (Nat.le_of_ble_eq_true rfl)) (lits_cons (lit_tup (lits_cons lit_str (lits_cons (lit_is rfl hE5 C.ex (ki "SameEffect" (by decide +kernel))) lits_nil)) (Nat.le_of_ble_eq_true rfl)) lits_nil)) (Nat.le_of_ble_eq_true rfl)) (Nat.le_of_ble_eq_true rfl)) (fun H6 v6 s6 r6 => ?_)
    have hE6 := s6 _ _ hE5
    refine lit_set (d := .lst (((((([.tup [.str "sequence", .bl (decide (("InvalidSequence" : Str) = nm))], .tup [.str "state", .bl (decide (("InvalidState" : Str) = nm))]] ++ [.tup [.str "kind", .bl (decide (("InvalidKind" : Str) = nm))], .tup [.str "kinds", .bl (decide (("InvalidKinds" : Str) = nm))]]) ++ [.tup [.str "items", .bl (decide (("InvalidItems" : Str) = nm))], .tup [.str "number", .bl (decide (("InvalidNumber" : Str) = nm))]]) ++ [.tup [.str "effects", .bl (decide (("InvalidEffects" : Str) = nm))], .tup [.str "counts", .bl (decide (("InvalidCounts" : Str) = nm))]]) ++ [.tup [.str "long", .bl (decide (("TooLong" : Str) = nm))], .tup [.str "many", .bl (decide (("TooMany" : Str) = nm))]]) ++ [.tup [.str "impossible", .bl (decide (("Impossible" : Str) = nm))], .tup [.str "same", .bl (decide (("SameEffect" : Str) = nm))]]) ++ [.tup [.str "odd", .bl (decide (("InvalidPosition" : Str) = nm))], .tup [.str "odd", .bl (decide (("InvalidRecord" : Str) = nm))]])) (lit_cat (lit_var rfl r6) (lit_lst (lits_cons (lit_tup (lits_cons lit_str (lits_cons (lit_is rfl hE6 C.ex (ki "InvalidPosition" (by decide +kernel))) lits_nil)) (Nat.le_of_ble_eq_true rfl)) (lits_cons (lit_tup (lits_cons lit_str (lits_cons (lit_is rfl hE6 C.ex (ki "InvalidRecord" (by decide +kernel))) lits_nil)) (Nat.le_of_ble_eq_true rfl)) lits_nil)) (Nat.le_of_ble_eq_true rfl)) (Nat.le_of_ble_eq_true rfl)) (fun H7 v7 s7 r7 => ?_)
    have hE7 := s7 _ _ hE6
    refine lit_set (d := .lst ((((((([.tup [.str "sequence", .bl (decide (("InvalidSequence" : Str) = nm))], .tup [.str "state", .bl (decide (("InvalidState" : Str) = nm))]] ++ [.tup [.str "kind", .bl (decide (("InvalidKind" : Str) = nm))], .tup [.str "kinds", .bl (decide (("InvalidKinds" : Str) = nm))]]) ++ [.tup [.str "items", .bl (decide (("InvalidItems" : Str) = nm))], .tup [.str "number", .bl (decide (("InvalidNumber" : Str) = nm))]]) ++ [.tup [.str "effects", .bl (decide (("InvalidEffects" : Str) = nm))], .tup [.str "counts", .bl (decide (("InvalidCounts" : Str) = nm))]]) ++ [.tup [.str "long", .bl (decide (("TooLong" : Str) = nm))], .tup [.str "many", .bl (decide (("TooMany" : Str) = nm))]]) ++ [.tup [.str "impossible", .bl (decide (("Impossible" : Str) = nm))], .tup [.str "same", .bl (decide (("SameEffect" : Str) = nm))]]) ++ [.tup [.str "odd", .bl (decide (("InvalidPosition" : Str) = nm))], .tup [.str "odd", .bl (decide (("InvalidRecord" : Str) = nm))]]) ++ [.tup [.str "odd", .bl (decide (("InvalidCommand" : Str) = nm))], .tup [.str "odd", .bl (decide (("InvalidText" : Str) = nm))]])) (lit_cat (lit_var rfl r7) (lit_lst (lits_cons (lit_tup (lits_cons lit_str (lits_cons (lit_is rfl hE7 C.ex (ki "InvalidCommand" (by decide +kernel))) lits_nil)) (Nat.le_of_ble_eq_true rfl)) (lits_cons (lit_tup (lits_cons lit_str (lits_cons (lit_is rfl hE7 C.ex (ki "InvalidText" (by decide +kernel))) lits_nil)) (Nat.le_of_ble_eq_true rfl)) lits_nil)) (Nat.le_of_ble_eq_true rfl)) (Nat.le_of_ble_eq_true rfl)) (fun H8 v8 s8 r8 => ?_)
    have hE8 := s8 _ _ hE7
    refine lit_set (d := .lst (((((((([.tup [.str "sequence", .bl (decide (("InvalidSequence" : Str) = nm))], .tup [.str "state", .bl (decide (("InvalidState" : Str) = nm))]] ++ [.tup [.str "kind", .bl (decide (("InvalidKind" : Str) = nm))], .tup [.str "kinds", .bl (decide (("InvalidKinds" : Str) = nm))]]) ++ [.tup [.str "items", .bl (decide (("InvalidItems" : Str) = nm))], .tup [.str "number", .bl (decide (("InvalidNumber" : Str) = nm))]]) ++ [.tup [.str "effects", .bl (decide (("InvalidEffects" : Str) = nm))], .tup [.str "counts", .bl (decide (("InvalidCounts" : Str) = nm))]]) ++ [.tup [.str "long", .bl (decide (("TooLong" : Str) = nm))], .tup [.str "many", .bl (decide (("TooMany" : Str) = nm))]]) ++ [.tup [.str "impossible", .bl (decide (("Impossible" : Str) = nm))], .tup [.str "same", .bl (decide (("SameEffect" : Str) = nm))]]) ++ [.tup [.str "odd", .bl (decide (("InvalidPosition" : Str) = nm))], .tup [.str "odd", .bl (decide (("InvalidRecord" : Str) = nm))]]) ++ [.tup [.str "odd", .bl (decide (("InvalidCommand" : Str) = nm))], .tup [.str "odd", .bl (decide (("InvalidText" : Str) = nm))]]) ++ [.tup [.str "odd", .bl (decide (("Contradiction" : Str) = nm))], .tup [.str "odd", .bl (decide (("NothingToUndo" : Str) = nm))]])) (lit_cat (lit_var rfl r8) (lit_lst (lits_cons (lit_tup (lits_cons lit_str (lits_cons (lit_is rfl hE8 C.ex (ki "Contradiction" (by decide +kernel))) lits_nil)) (Nat.le_of_ble_eq_true rfl)) (lits_cons (lit_tup (lits_cons lit_str (lits_cons (lit_is rfl hE8 C.ex (ki "NothingToUndo" (by decide +kernel))) lits_nil)) (Nat.le_of_ble_eq_true rfl)) lits_nil)) (Nat.le_of_ble_eq_true rfl)) (Nat.le_of_ble_eq_true rfl)) (fun H9 v9 s9 r9 => ?_)
    have hE9 := s9 _ _ hE8
    have r10 : Rp H9 v9 (.lst ((nlist nm).map tpD)) := r9
    have sA := s1.trans (s2.trans (s3.trans (s4.trans (s5.trans (s6.trans (s7.trans (s8.trans s9)))))))
    clear r1 r2 r3 r4 r5 r6 r7 r8 r9
    obtain ⟨p, xs, rfl, hx, lx, at_⟩ := tp_at r10
    have one := name_one nm hn
    have l18 : (nlist nm).length = 18 := rfl
    generalize nlist nm = L at *
    refine ⟨_, rfl, p, rfl, ⟨xs, .of hx⟩, fun F nF => lc_list (K := K) (a := p) (xs := xs) (fun i H' => Same H9 H' ∧ H' F = some (.lst ((((L.take i).filter (·.2)).map (·.1)).map V.str))) ⟨same_upd nF, upd_same⟩ (fun i H' _ p => .of (p.1 _ _ hx)) (fun i x H10 ex hP => ?_) (fun H10 hP => ?_)⟩
    · obtain ⟨sm, hF⟩ := hP
      obtain ⟨pp, t, epp, rfl, ht⟩ := at_ i x ex
      have hi : i < xs.length := (List.getElem?_eq_some_iff.mp ex).1
      refine ⟨t, _, rfl, .of (sm _ _ ht), rfl, _, _, rfl, _, _, rfl, rfl, rfl, _, rfl, _, rfl, ite2 (fun hb => ?_) (fun hb => ?_)⟩
      · refine ⟨_, rfl, _, hF, ?_, same_grow nF sm, ?_⟩
        · have h1 := List.length_filter_le (fun q : Str × Bool => q.2) (L.take i)
          rw [List.length_take] at h1
          rw [List.length_map, List.length_map]
          exact small (by omega)
        · rw [upd_same, take_snoc epp, List.filter_append, List.filter_cons_of_pos (p := fun q : Str × Bool => q.2) hb, List.map_append, List.map_append]
          rfl
      · refine ⟨sm, ?_⟩
        rw [take_snoc epp, List.filter_append, List.filter_cons_of_neg (p := fun q : Str × Bool => q.2) hb, List.filter_nil, List.append_nil]
        exact hF
    obtain ⟨s10, hF⟩ := hP
    rw [List.take_of_length_le (by omega), one] at hF
    have hF : H10 F = some (.lst [.str (nameOf nm)]) := hF
    refine ⟨_, rfl, F, _, rfl, .inl (.of hF), rfl, _, rfl, iteP rfl ⟨_, rfl, a, _, _, _, _, rfl, s10 _ _ hE9, C.ex, (fun u r => r), C.kv, _, rfl, iteT ?_⟩⟩
    exact ⟨_, rfl, F, _, 0, _, rfl, rfl, .of hF, rfl, q _ (sA.trans s10)⟩
end
end UP

set_option Elab.async false
set_option linter.all false
set_option maxRecDepth 100000
set_option maxHeartbeats 4000000
namespace UP
open PySem PySem.Spec PyProof.Rows L2
/-! ### a heap without one address -/
theorem delH_sub {H : Hp} {a : Addr} : Same (delH H a) H := fun b o e => by
  by_cases h : b = a
  · rw [h, delH_same] at e
    cases e
  · rw [delH_ne h] at e
    exact e
theorem delH_mono {H H' : Hp} {a : Addr} (s : Same H H') : Same (delH H a) (delH H' a) := fun b o e => by
  by_cases h : b = a
  · rw [h, delH_same] at e
    cases e
  · rw [delH_ne h] at e ⊢
    exact s _ _ e
theorem delH_upd {H : Hp} {a : Addr} {o : HO} : delH (upd H a o) a = delH H a := by
  funext b
  by_cases h : b = a
  · rw [h, delH_same, delH_same]
  · rw [delH_ne h, delH_ne h, upd_ne h]
theorem newH_del {H0 H : Hp} {a : Addr} {o : HO} (h : H0 a = some o) : Same (newH H0 H) (delH H a) := fun b u e => by
  by_cases hb : b = a
  · rw [hb, newH_old h] at e
    cases e
  · rw [delH_ne hb]
    exact newH_sub _ _ e
theorem newH_butR {H0 H H' : Hp} {p : Addr} (z : Reel H0 p) (b : RB p H H') : Same (newH H0 H) (newH H0 H') := fun x o e => by
  cases h : H0 x with
  | none =>
    rw [newH_at h] at e ⊢
    refine b.but _ _ (fun q => ?_) e
    rw [q] at h
    exact absurd rfl (z.ne h)
  | some o' =>
    rw [newH_old h] at e
    cases e
theorem delH_RB {H H' : Hp} {p : Addr} (b : RB p H H') : Same (delH H p) (delH H' p) := fun x o e => by
  by_cases h : x = p
  · rw [h, delH_same] at e
    cases e
  · rw [delH_ne h] at e ⊢
    exact b.but _ _ h e
theorem Reel.at {H : Hp} {p : Addr} (z : Reel H p) : ∃ o, H p = some o := by
  obtain ⟨_, _, _, _, _, _, h, _⟩ := z
  exact ⟨_, h⟩
/-! ### the menus -/
theorem strs_rp {H : Hp} {f : Nat → Str} : ∀ (l : List Nat), Paired (Rp H) (l.map fun c => V.str (f c)) (l.map fun c => Dat.str (f c))
  | [] => .nil
  | c :: t => .cons (.str _) (strs_rp t)
def bad0 : List Dat := [.non, .int 0, .str "a", .dic, .lst [.non], .lst [.tup [.str "a", .int 0]], .lst [.tup [.str "A", .int 1]], .lst [.tup [.str "a", .int 1], .tup [.str "a", .int 1]], .lst [.tup [.str "a"]], .lst [.tup [.str "a", .int 1, .int 1]]] ++ [.lst [.tup [.str "a", .bl true]], .lst [.tup [.str "a", .int ((10 : Int) ^ ((30 : Int).toNat) + 1)]], .lst [.tup [.str "abcdefghi", .int 1]], .tup [.str "a", .int 1], .lst [.tup [.str "a", .str "1"]], .lst [.lst [.str "", .int 1]]]
def bad1 : List Dat := [.int 0, .bl true, .str "a", .tup [], .lst [], .tup [.str "a"], .tup [.str "a", .int 0], .tup [.str "a", .int (-1)], .tup [.str "A", .int 1], .tup [.str "a", .bl true], .tup [.str "a", .int 1, .int 1], .tup [.int 1, .str "a"], .dic]
def bad2 : List Dat := [.non, .int 0, .str "", .str "A", .str "abcdefghi", .lst [.str "a"], .tup [.str "a"], .str "a b", .bl true, .str "a1"]
def kl (z : Str) : List Dat := z.cps.toList.map fun c => .str (("k" : Str) ++ ⟨#[c]⟩)
def bad3 : List Dat := [.non, .int 0, .str "a", .lst [], .lst [.str "b", .str "a"], .lst [.str "a", .str "a"], .lst [.str "A"], .lst [.int 1], .lst [.non], .dic, .lst [.str "a", .str ""]] ++ [.str "abcdefghijklm", .lst (kl "abcdefghijklm")]
def badM (k : Int) : List Dat := if k = 0 then bad0 else if k = 1 then bad1 else if k = 2 then bad2 else bad3
section
variable {P : Program} {w : World} {K : PySem.W.Frag} {mg : Str → Option Value} {base : Heap}
/-! _law_bad: slots 0:reel 1:which 2:some 3:letter -/
abbrev s_law_bad : Stmt := topS 67
theorem sc_law_bad : FnScope ["reel", "which", "some", "letter"] ["reel", "which"] (defScope s_law_bad) := ⟨rfl, rfl, rfl, by decide +kernel, rfl, by decide +kernel, by decide +kernel⟩
def sp_law_bad : Sp := fun vs H Q _ => ∃ (p : Addr) (k : Int), vs = [.ref p, .int k] ∧ Reel H p ∧ 0 ≤ k ∧ k ≤ 3 ∧ ∀ H' v d, RB p H H' → Reel H' p → d ∈ badM k → Rp (newH H H') v d → Q v H'
theorem ok_law_bad (D : Df K mg "_law_bad" s_law_bad) (T : Tx mg) (G_law_draw : Has P w K mg base 1 "_law_draw" ["reel", "many"] sp_law_draw) : Has P w K mg base 2 "_law_bad" ["reel", "which"] sp_law_bad := by
  refine has_of D sc_law_bad (fun _ _ _ _ _ _ us hl => match us, hl with | [_, _], _ => rfl) (fun vs H Q E h => ?_) (fun f cdv A outer s₀ H vs Q E hr h => ?_)
  · obtain ⟨_, _, rfl, _⟩ := h
    rfl
  · obtain ⟨p, k, rfl, hz, k0, k3, q⟩ := h
    obtain ⟨op, hp⟩ := hz.at
    refine ⟨_, (pss_cons (ps_if (pt_cmpR op_eq (pv 1) pe_int (nomark _)) (pss_cons (ps_set (i := 2) sc_law_bad.nd rfl (by first | exact Or.inl rfl | exact Or.inr rfl) (pe_lst (pa_cons pe_non (pa_cons pe_int (pa_cons pe_str (pa_cons pe_dnewK (pa_cons (pe_lst (pa_cons pe_non pa_nil)) (pa_cons (pe_lst (pa_cons (pe_tup (pa_cons pe_str (pa_cons pe_int pa_nil))) pa_nil)) (pa_cons (pe_lst (pa_cons (pe_tup (pa_cons pe_str (pa_cons pe_int pa_nil))) pa_nil)) (pa_cons (pe_lst (pa_cons (pe_tup (pa_cons pe_str (pa_cons pe_int pa_nil))) (pa_cons (pe_tup (pa_cons pe_str (pa_cons pe_int pa_nil))) pa_nil))) (pa_cons (pe_lst (pa_cons (pe_tup (pa_cons pe_str pa_nil)) pa_nil)) (pa_cons (pe_lst (pa_cons (pe_tup (pa_cons pe_str (pa_cons pe_int (pa_cons pe_int pa_nil)))) pa_nil)) pa_nil))))))))))))
    (pss_cons (ps_set (i := 2) sc_law_bad.nd rfl (by first | exact Or.inl rfl | exact Or.inr rfl) (pe_op op_cat (pv 2) (pe_lst (pa_cons (pe_lst (pa_cons (pe_tup (pa_cons pe_str (pa_cons pe_bl pa_nil))) pa_nil)) (pa_cons (pe_lst (pa_cons (pe_tup (pa_cons pe_str (pa_cons (pe_op op_add (pe_op op_pow pe_int pe_int) pe_int) pa_nil))) pa_nil)) (pa_cons (pe_lst (pa_cons (pe_tup (pa_cons pe_str (pa_cons pe_int pa_nil))) pa_nil)) (pa_cons (pe_tup (pa_cons pe_str (pa_cons pe_int pa_nil))) (pa_cons (pe_lst (pa_cons (pe_tup (pa_cons pe_str (pa_cons pe_str pa_nil))) pa_nil)) (pa_cons (pe_lst (pa_cons (pe_lst (pa_cons pe_str (pa_cons pe_int pa_nil))) pa_nil)) pa_nil)))))))))
    (pss_one (ps_ret (pe_ix ix_list (pv 2) (pe_callH G_law_draw (hr.mono (by omega)) (by rfl) (pa_cons (pv 0) (pa_cons pe_int pa_nil))) (fun _ _ => rfl)))))) pss_nil)
    (pss_cons (ps_if (pt_cmpR op_eq (pv 1) pe_int (nomark _)) (pss_cons (ps_set (i := 2) sc_law_bad.nd rfl (by first | exact Or.inl rfl | exact Or.inr rfl) (pe_lst (pa_cons pe_int (pa_cons pe_bl (pa_cons pe_str (pa_cons (pe_tup pa_nil) (pa_cons (pe_lst pa_nil) (pa_cons (pe_tup (pa_cons pe_str pa_nil)) (pa_cons (pe_tup (pa_cons pe_str (pa_cons pe_int pa_nil))) (pa_cons (pe_tup (pa_cons pe_str (pa_cons (pe_un un_neg pe_int) pa_nil))) (pa_cons (pe_tup (pa_cons pe_str (pa_cons pe_int pa_nil))) (pa_cons (pe_tup (pa_cons pe_str (pa_cons pe_bl pa_nil))) (pa_cons (pe_tup (pa_cons pe_str (pa_cons pe_int (pa_cons pe_int pa_nil)))) (pa_cons (pe_tup (pa_cons pe_int (pa_cons pe_str pa_nil))) (pa_cons pe_dnewK pa_nil)))))))))))))))
    (pss_one (ps_ret (pe_ix ix_list (pv 2) (pe_callH G_law_draw (hr.mono (by omega)) (by rfl) (pa_cons (pv 0) (pa_cons pe_int pa_nil))) (fun _ _ => rfl))))) pss_nil)
    (pss_cons (ps_if (pt_cmpR op_eq (pv 1) pe_int (nomark _)) (pss_one (ps_ret (pe_ix ix_list (pe_lst (pa_cons pe_non (pa_cons pe_int (pa_cons pe_str (pa_cons pe_str (pa_cons pe_str (pa_cons (pe_lst (pa_cons pe_str pa_nil)) (pa_cons (pe_tup (pa_cons pe_str pa_nil)) (pa_cons pe_str (pa_cons pe_bl (pa_cons pe_str pa_nil))))))))))) (pe_callH G_law_draw (hr.mono (by omega)) (by rfl) (pa_cons (pv 0) (pa_cons pe_int pa_nil))) (fun _ _ => rfl)))) pss_nil)
    (pss_cons (ps_set (i := 2) sc_law_bad.nd rfl (by first | exact Or.inl rfl | exact Or.inr rfl) (pe_lst (pa_cons pe_non (pa_cons pe_int (pa_cons pe_str (pa_cons (pe_lst pa_nil) (pa_cons (pe_lst (pa_cons pe_str (pa_cons pe_str pa_nil))) (pa_cons (pe_lst (pa_cons pe_str (pa_cons pe_str pa_nil))) (pa_cons (pe_lst (pa_cons pe_str pa_nil)) (pa_cons (pe_lst (pa_cons pe_int pa_nil)) (pa_cons (pe_lst (pa_cons pe_non pa_nil)) (pa_cons pe_dnewK (pa_cons (pe_lst (pa_cons pe_str (pa_cons pe_str pa_nil))) pa_nil)))))))))))))
    (pss_one (ps_ret (pe_ix ix_list (pe_op op_cat (pv 2) (pe_lst (pa_cons pe_str (pa_cons (pe_lc (own := [("letter", 3)]) rfl sc_law_bad.nd (pi_str pe_str) (blkOk_by (N := ["reel", "which", "some", "letter"]) (sc := defScope s_law_bad) (by decide +kernel)) (fun _ _ _ _ _ => (pg_name (i := 3) sc_law_bad.nd rfl (by first | exact Or.inl rfl | exact Or.inr rfl))) (fun _ _ _ _ _ => pts_nil) (fun _ _ _ _ _ => (pe_op op_add_str pe_str (pv 3)))) pa_nil)))) (pe_callH G_law_draw (hr.mono (by omega)) (by rfl) (pa_cons (pv 0) (pa_cons pe_int pa_nil))) (fun _ _ => rfl)))))))), ?_⟩
    rcases (show k = 0 ∨ k = 1 ∨ k = 2 ∨ k = 3 by omega) with rfl | rfl | rfl | rfl
    · refine ⟨_, rfl, rfl, _, rfl, iteP rfl ?_⟩
      refine litF_set (Same.refl _) (d := .lst [.non, .int 0, .str "a", .dic, .lst [.non], .lst [.tup [.str "a", .int 0]], .lst [.tup [.str "A", .int 1]], .lst [.tup [.str "a", .int 1], .tup [.str "a", .int 1]], .lst [.tup [.str "a"]], .lst [.tup [.str "a", .int 1, .int 1]]]) (litF_lst (litsF_cons litF_non (litsF_cons litF_int (litsF_cons litF_str (litsF_cons litF_dic (litsF_cons (litF_lst (litsF_cons litF_non litsF_nil) (Nat.le_of_ble_eq_true rfl)) (litsF_cons (litF_lst (litsF_cons (litF_tup (litsF_cons litF_str (litsF_cons litF_int litsF_nil)) (Nat.le_of_ble_eq_true rfl)) litsF_nil) (Nat.le_of_ble_eq_true rfl)) (litsF_cons (litF_lst (litsF_cons (litF_tup (litsF_cons litF_str (litsF_cons litF_int litsF_nil)) (Nat.le_of_ble_eq_true rfl)) litsF_nil) (Nat.le_of_ble_eq_true rfl)) (litsF_cons (litF_lst (litsF_cons (litF_tup (litsF_cons litF_str (litsF_cons litF_int litsF_nil)) (Nat.le_of_ble_eq_true rfl)) (litsF_cons (litF_tup (litsF_cons litF_str (litsF_cons litF_int litsF_nil)) (Nat.le_of_ble_eq_true rfl)) litsF_nil)) (Nat.le_of_ble_eq_true rfl)) (litsF_cons (litF_lst (litsF_cons (litF_tup (litsF_cons litF_str litsF_nil) (Nat.le_of_ble_eq_true rfl)) litsF_nil) (Nat.le_of_ble_eq_true rfl)) (litsF_cons (litF_lst (litsF_cons (litF_tup (litsF_cons litF_str (litsF_cons litF_int (litsF_cons litF_int litsF_nil))) (Nat.le_of_ble_eq_true rfl)) litsF_nil) (Nat.le_of_ble_eq_true rfl)) litsF_nil)))))))))) (Nat.le_of_ble_eq_true rfl)) (fun H1 v1 s1 r1 => ?_)
      refine litF_set s1 (d := .lst bad0) (litF_cat (litF_var rfl r1) (litF_lst (litsF_cons (litF_lst (litsF_cons (litF_tup (litsF_cons litF_str (litsF_cons litF_bl litsF_nil)) (Nat.le_of_ble_eq_true rfl)) litsF_nil) (Nat.le_of_ble_eq_true rfl)) (litsF_cons (litF_lst (litsF_cons (litF_tup (litsF_cons litF_str (litsF_cons (litF_val (v := .int ((10 : Int) ^ ((30 : Int).toNat) + 1)) (fun H Q q => ⟨_, _, rfl, rfl, ⟨by decide, by decide, by decide⟩, _, _, rfl, rfl, q⟩) (fun H => .int _)) litsF_nil)) (Nat.le_of_ble_eq_true rfl)) litsF_nil) (Nat.le_of_ble_eq_true rfl)) (litsF_cons (litF_lst (litsF_cons (litF_tup (litsF_cons litF_str (litsF_cons litF_int litsF_nil)) (Nat.le_of_ble_eq_true rfl)) litsF_nil) (Nat.le_of_ble_eq_true rfl)) (litsF_cons (litF_tup (litsF_cons litF_str (litsF_cons litF_int litsF_nil)) (Nat.le_of_ble_eq_true rfl)) (litsF_cons (litF_lst (litsF_cons (litF_tup (litsF_cons litF_str (litsF_cons litF_str litsF_nil)) (Nat.le_of_ble_eq_true rfl)) litsF_nil) (Nat.le_of_ble_eq_true rfl)) (litsF_cons (litF_lst (litsF_cons (litF_lst (litsF_cons litF_str (litsF_cons litF_int litsF_nil)) (Nat.le_of_ble_eq_true rfl)) litsF_nil) (Nat.le_of_ble_eq_true rfl)) litsF_nil)))))) (Nat.le_of_ble_eq_true rfl)) (Nat.le_of_ble_eq_true rfl)) (fun H2 v2 s2 r2 => ?_)
      refine ⟨_, rfl, _, rfl, p, 16, rfl, (hz.same s1).same s2, by decide, by decide, fun H3 r b3 z3 r0 r1' => ?_⟩
      have ix : r.toNat < bad0.length := by
        show r.toNat < 16
        omega
      obtain ⟨a, xs, x, rfl, hxs, ex, hx⟩ := rp_at (r2.same (newH_butR hz b3)) r0 ix
      exact ⟨a, xs, r, x, rfl, rfl, .of (newH_sub _ _ hxs), ex, q H3 x _ ((RB.of (s1.trans s2)).trans b3) z3 (List.getElem_mem ix) hx⟩
    · refine ⟨_, rfl, rfl, _, rfl, iteN rfl ⟨_, rfl, rfl, _, rfl, iteP rfl ?_⟩⟩
      refine litF_set (Same.refl _) (d := .lst bad1) (litF_lst (litsF_cons litF_int (litsF_cons litF_bl (litsF_cons litF_str (litsF_cons (litF_tup litsF_nil (Nat.le_of_ble_eq_true rfl)) (litsF_cons (litF_lst litsF_nil (Nat.le_of_ble_eq_true rfl)) (litsF_cons (litF_tup (litsF_cons litF_str litsF_nil) (Nat.le_of_ble_eq_true rfl)) (litsF_cons (litF_tup (litsF_cons litF_str (litsF_cons litF_int litsF_nil)) (Nat.le_of_ble_eq_true rfl)) (litsF_cons (litF_tup (litsF_cons litF_str (litsF_cons (litF_val (v := .int (-1)) (fun H Q q => ⟨1, rfl, q⟩) (fun H => .int _)) litsF_nil)) (Nat.le_of_ble_eq_true rfl)) (litsF_cons (litF_tup (litsF_cons litF_str (litsF_cons litF_int litsF_nil)) (Nat.le_of_ble_eq_true rfl)) (litsF_cons (litF_tup (litsF_cons litF_str (litsF_cons litF_bl litsF_nil)) (Nat.le_of_ble_eq_true rfl)) (litsF_cons (litF_tup (litsF_cons litF_str (litsF_cons litF_int (litsF_cons litF_int litsF_nil))) (Nat.le_of_ble_eq_true rfl)) (litsF_cons (litF_tup (litsF_cons litF_int (litsF_cons litF_str litsF_nil)) (Nat.le_of_ble_eq_true rfl)) (litsF_cons litF_dic litsF_nil))))))))))))) (Nat.le_of_ble_eq_true rfl)) (fun H2 v2 s2 r2 => ?_)
      refine ⟨_, rfl, _, rfl, p, 13, rfl, hz.same s2, by decide, by decide, fun H3 r b3 z3 r0 r1' => ?_⟩
      have ix : r.toNat < bad1.length := by
        show r.toNat < 13
        omega
      obtain ⟨a, xs, x, rfl, hxs, ex, hx⟩ := rp_at (r2.same (newH_butR hz b3)) r0 ix
      exact ⟨a, xs, r, x, rfl, rfl, .of (newH_sub _ _ hxs), ex, q H3 x _ ((RB.of s2).trans b3) z3 (List.getElem_mem ix) hx⟩
    · refine ⟨_, rfl, rfl, _, rfl, iteN rfl ⟨_, rfl, rfl, _, rfl, iteN rfl ⟨_, rfl, rfl, _, rfl, iteP rfl ?_⟩⟩⟩
      refine litF_retIx (Same.refl _) (ds := bad2) (litF_lst (litsF_cons litF_non (litsF_cons litF_int (litsF_cons litF_str (litsF_cons litF_str (litsF_cons litF_str (litsF_cons (litF_lst (litsF_cons litF_str litsF_nil) (Nat.le_of_ble_eq_true rfl)) (litsF_cons (litF_tup (litsF_cons litF_str litsF_nil) (Nat.le_of_ble_eq_true rfl)) (litsF_cons litF_str (litsF_cons litF_bl (litsF_cons litF_str litsF_nil)))))))))) (Nat.le_of_ble_eq_true rfl)) (fun H2 v2 s2 r2 => ?_)
      refine ⟨_, rfl, p, 10, rfl, hz.same s2, by decide, by decide, fun H3 r b3 z3 r0 r1' => ?_⟩
      have ix : r.toNat < bad2.length := by
        show r.toNat < 10
        omega
      obtain ⟨a, xs, x, rfl, hxs, ex, hx⟩ := rp_at (r2.same (newH_butR hz b3)) r0 ix
      exact ⟨a, xs, r, x, rfl, rfl, .of (newH_sub _ _ hxs), ex, q H3 x _ ((RB.of s2).trans b3) z3 (List.getElem_mem ix) hx⟩
    · refine ⟨_, rfl, rfl, _, rfl, iteN rfl ⟨_, rfl, rfl, _, rfl, iteN rfl ⟨_, rfl, rfl, _, rfl, iteN rfl ?_⟩⟩⟩
      refine litF_set (Same.refl _) (d := .lst [.non, .int 0, .str "a", .lst [], .lst [.str "b", .str "a"], .lst [.str "a", .str "a"], .lst [.str "A"], .lst [.int 1], .lst [.non], .dic, .lst [.str "a", .str ""]]) (litF_lst (litsF_cons litF_non (litsF_cons litF_int (litsF_cons litF_str (litsF_cons (litF_lst litsF_nil (Nat.le_of_ble_eq_true rfl)) (litsF_cons (litF_lst (litsF_cons litF_str (litsF_cons litF_str litsF_nil)) (Nat.le_of_ble_eq_true rfl)) (litsF_cons (litF_lst (litsF_cons litF_str (litsF_cons litF_str litsF_nil)) (Nat.le_of_ble_eq_true rfl)) (litsF_cons (litF_lst (litsF_cons litF_str litsF_nil) (Nat.le_of_ble_eq_true rfl)) (litsF_cons (litF_lst (litsF_cons litF_int litsF_nil) (Nat.le_of_ble_eq_true rfl)) (litsF_cons (litF_lst (litsF_cons litF_non litsF_nil) (Nat.le_of_ble_eq_true rfl)) (litsF_cons litF_dic (litsF_cons (litF_lst (litsF_cons litF_str (litsF_cons litF_str litsF_nil)) (Nat.le_of_ble_eq_true rfl)) litsF_nil))))))))))) (Nat.le_of_ble_eq_true rfl)) (fun H1 v1 s1 r1 => ?_)
      refine litF_retIx s1 (ds := bad3) (litF_cat (litF_var rfl r1) (litF_lst (litsF_cons litF_str (litsF_cons (d := .lst (kl "abcdefghijklm")) (fun H Q s w q => by
        refine ⟨_, rfl, fun L nL => lc_gen (n := ("abcdefghijklm" : Str).cps.size) (fun i H' => Same H H' ∧ H' L = some (.lst ((("abcdefghijklm" : Str).cps.toList.take i).map fun c => V.str (("k" : Str) ++ ⟨#[c]⟩)))) ⟨same_upd nL, upd_same⟩ (fun i H' hi _ => hi) (fun H' _ => Nat.le_refl _) (fun i x H1 H2 hi p y => ?_) (fun H' p => ?_)⟩
        · obtain ⟨rfl, c, ec, rfl⟩ := y
          obtain ⟨sm, hL⟩ := p
          have ec' : ("abcdefghijklm" : Str).cps.toList[i]? = some c := by
            rw [Array.getElem?_toList]
            exact ec
          have hi : i < 13 := hi
          refine ⟨rfl, yesT ⟨_, rfl, _, _, rfl, rfl, smallE (by show 1 + 1 ≤ _; decide), _, hL, ?_, same_grow nL sm, ?_⟩⟩
          · rw [List.length_map, List.length_take]
            exact small (by omega)
          · rw [upd_same, take_snoc ec', List.map_append]
            rfl
        · obtain ⟨sm, hL⟩ := p
          rw [List.take_of_length_le (by rw [Array.length_toList]; exact Nat.le_refl _)] at hL
          refine q H' _ sm (.lst (by rw [newH_at (s.free nL)]; exact hL) ?_)
          exact strs_rp _) litsF_nil)) (Nat.le_of_ble_eq_true rfl)) (Nat.le_of_ble_eq_true rfl)) (fun H2 v2 s2 r2 => ?_)
      refine ⟨_, rfl, p, 13, rfl, (hz.same s1).same s2, by decide, by decide, fun H3 r b3 z3 r0 r1' => ?_⟩
      have ix : r.toNat < bad3.length := by
        show r.toNat < 13
        omega
      obtain ⟨a, xs, x, rfl, hxs, ex, hx⟩ := rp_at (r2.same (newH_butR hz b3)) r0 ix
      exact ⟨a, xs, r, x, rfl, rfl, .of (newH_sub _ _ hxs), ex, q H3 x _ ((RB.of (s1.trans s2)).trans b3) z3 (List.getElem_mem ix) hx⟩
end
end UP

set_option Elab.async false
set_option linter.all false
set_option maxRecDepth 100000
set_option maxHeartbeats 4000000
set_option pp.maxSteps 500
namespace UP
open PySem PySem.Spec PyProof.Rows L2
/-- 401 effects that leave nobody -/
def noEff : Dat := .lst (List.replicate 401 .non)
/-- what a call says: its door, its parts, the word that is due -/
inductive Err : Int → List Dat → Str → Prop
  | d0q {m x : Dat} (fm : m.fits) (fx : x.fit) (h : m.seq = false) : Err 0 [m, x] "sequence"
  | d0l {m x : Dat} (fm : m.fits) (fx : x.fit) (q0 : m.seq = true) (h : 400 < lenR m.runs) : Err 0 [m, x] "long"
  | d0k {m x : Dat} (fm : m.fits) (fx : x.fit) (sh : m.shortS) (h : x.kind = false) : Err 0 [m, x] "kind"
  | d0o {m : Dat} {k : Str} (sh : m.shortS) (kk : KindOk k) : Err 0 [m, .str k] "none"
  | d1k {m x f : Dat} (fm : m.fits) (fx : x.fit) (ff : f.fit2) (h : x.kind = false) : Err 1 [m, x, f] "kind"
  | d1f {m f : Dat} {k : Str} (fm : m.fits) (fx : (Dat.str k).fit) (ff : f.fit2) (kt : (Dat.str k).kind = true) (h : m.effs k = false) : Err 1 [m, .str k, f] "effects"
  | d1t {m f : Dat} {k : Str} (fm : m.fits) (fx : (Dat.str k).fit) (ff : f.fit2) (kt : (Dat.str k).kind = true) (h : m.effs k = true) (h1 : f.stof k = false) : Err 1 [m, .str k, f] "state"
  | d1o : Err 1 [noEff, .str "a", .non] "none"
  | d2q {m x : Dat} (fm : m.fits) (fx : x.fits) (h : m.seq = false) : Err 2 [m, x] "sequence"
  | d2l {m x : Dat} (fm : m.fits) (fx : x.fits) (q0 : m.seq = true) (h : 400 < lenR m.runs) : Err 2 [m, x] "long"
  | d2r {m x : Dat} (fm : m.fits) (fx : x.fits) (sh : m.shortS) (h : x.seq = false) : Err 2 [m, x] "sequence"
  | d2m {m x : Dat} (fm : m.fits) (fx : x.fits) (sh : m.shortS) (q0 : x.seq = true) (h : 400 < lenR x.runs) : Err 2 [m, x] "long"
  | d2o {m x : Dat} (sh : m.shortS) (sx : x.shortS) (s20 : (setS (itR m.runs ++ itR x.runs)).length ≤ 20) : Err 2 [m, x] "none"
  | d3q {m x : Dat} (fm : m.fits) (fx : x.fits) (h : m.seq = false) : Err 3 [m, x] "sequence"
  | d3l {m x : Dat} (fm : m.fits) (fx : x.fits) (q0 : m.seq = true) (h : 400 < lenR m.runs) : Err 3 [m, x] "long"
  | d3r {m x : Dat} (fm : m.fits) (fx : x.fits) (sh : m.shortS) (h : x.seq = false) : Err 3 [m, x] "sequence"
  | d3m {m x : Dat} (fm : m.fits) (fx : x.fits) (sh : m.shortS) (q0 : x.seq = true) (h : 400 < lenR x.runs) : Err 3 [m, x] "long"
  | d3s {m x : Dat} (fm : m.fits) (fx : x.fits) (sh : m.shortS) (sx : x.shortS) (s20 : (setS (itR m.runs ++ itR x.runs)).length ≤ 20) (h : AllEqB m.runs x.runs) : Err 3 [m, x] "same"
  | d3o {m x : Dat} (fm : m.fits) (fx : x.fits) (sh : m.shortS) (sx : x.shortS) (s20 : (setS (itR m.runs ++ itR x.runs)).length ≤ 20) (h : ¬ AllEqB m.runs x.runs) : Err 3 [m, x] "none"
  | d4q {m x f : Dat} (fm : m.fits) (fx : x.fit2) (ff : f.fitK) (h : m.seq = false) : Err 4 [m, x, f] "sequence"
  | d4l {m x f : Dat} (fm : m.fits) (fx : x.fit2) (ff : f.fitK) (q0 : m.seq = true) (h : 400 < lenR m.runs) : Err 4 [m, x, f] "long"
  | d4t {m x f : Dat} (fm : m.fits) (fx : x.fit2) (ff : f.fitK) (sh : m.shortS) (h : x.state = false) : Err 4 [m, x, f] "state"
  | d4k {m x f : Dat} (fm : m.fits) (fx : x.fit2) (ff : f.fitK) (sh : m.shortS) (c : x.state = true) (h : f.kinds = false) : Err 4 [m, x, f] "kinds"
  | d4o {m x : Dat} {ks : List Str} (sh : m.shortS) (c : x.state = true) (hk : KsOk ks) : Err 4 [m, x, .lst (ks.map Dat.str)] "none"
theorem tup2_of {H : Hp} {v : V} {a b : Dat} (h : Rp H v (.tup [a, b])) : ∃ t x y, v = .ref t ∧ H t = some (.tup [x, y]) ∧ Rp H x a ∧ Rp H y b := by
  cases h with
  | tup e p =>
    cases p with
    | cons h1 p =>
      cases p with
      | cons h2 p =>
        cases p
        exact ⟨_, _, _, rfl, e, h1, h2⟩
theorem tup3_of {H : Hp} {v : V} {a b c : Dat} (h : Rp H v (.tup [a, b, c])) : ∃ t x y z, v = .ref t ∧ H t = some (.tup [x, y, z]) ∧ Rp H x a ∧ Rp H y b ∧ Rp H z c := by
  cases h with
  | tup e p =>
    cases p with
    | cons h1 p =>
      cases p with
      | cons h2 p =>
        cases p with
        | cons h3 p =>
          cases p
          exact ⟨_, _, _, _, rfl, e, h1, h2, h3⟩
theorem tup1_of {H : Hp} {v : V} {a : Dat} (h : Rp H v (.tup [a])) : ∃ t x, v = .ref t ∧ H t = some (.tup [x]) ∧ Rp H x a := by
  cases h with
  | tup e p =>
    cases p with
    | cons h1 p =>
      cases p
      exact ⟨_, _, rfl, e, h1⟩
theorem strs_of {H : Hp} : ∀ {xs : List V} {ks : List Str}, Paired (Rp H) xs (ks.map Dat.str) → xs = ks.map V.str
  | [], [], _ => rfl
  | _ :: _, _ :: _, .cons h t => by
    cases h
    rw [strs_of t]
    rfl
theorem nons_of {H : Hp} : ∀ {n : Nat} {xs : List V}, Paired (Rp H) xs (List.replicate n Dat.non) → Paired (StG H) xs (List.replicate n (none : Option Run))
  | 0, [], _ => .nil
  | _ + 1, _ :: _, .cons h t => by
    cases h
    exact .cons rfl (nons_of t)
section
variable {P : Program} {w : World} {K : PySem.W.Frag} {mg : Str → Option Value} {base : Heap}
/-! _law_error: slots 0:door 1:parts 2:caught 3:e -/
abbrev s_law_error : Stmt := topS 68
theorem sc_law_error : FnScope ["door", "parts", "caught", "e"] ["door", "parts"] (defScope s_law_error) := ⟨rfl, rfl, rfl, by decide +kernel, rfl, by decide +kernel, by decide +kernel⟩
def sp_law_error : Sp := fun vs H Q _ => ∃ (k : Int) (pq : V) (ps : List Dat) (due : Str), vs = [.int k, pq] ∧ Rp H pq (.tup ps) ∧ Err k ps due ∧ ∀ H', Same H H' → Q (.str due) H'
theorem ok_law_error {CA : Str → Addr} (D : Df K mg "_law_error" s_law_error) (T : Tx mg) (CM : Cmg mg CA) (FS : ClsF K CA "InvalidSequence") (FL : ClsF K CA "TooLong") (FK : ClsF K CA "InvalidKind") (FF : ClsF K CA "InvalidEffects") (FT : ClsF K CA "InvalidState") (FN : ClsF K CA "InvalidKinds") (FE : ClsF K CA "SameEffect") (G_law_kind_of : Has P w K mg base 1 "_law_kind_of" ["e"] (sp_law_kind_of K CA))
    (G_effect_of : Has P w K mg base 8 "effect_of" ["sequence", "kind"] sp_effect_of) (GX_effect_of : HasX P w K mg base 8 "effect_of" ["sequence", "kind"] (spX_effect_of (CA "InvalidSequence") (CA "TooLong") (CA "InvalidKind")))
    (G_effect_on : Has P w K mg base 5 "effect_on" ["effects", "kind", "state"] sp_effect_on) (GX_effect_on : HasX P w K mg base 8 "effect_on" ["effects", "kind", "state"] (spX_effect_on (CA "InvalidKind") (CA "InvalidEffects") (CA "InvalidState")))
    (G_have_same_effect : Has P w K mg base 8 "have_same_effect" ["first", "second"] sp_have_same_effect) (GX_have_same_effect : HasX P w K mg base 8 "have_same_effect" ["first", "second"] (spX_have_same_effect (CA "InvalidSequence") (CA "TooLong")))
    (GX_state_that_differs : HasX P w K mg base 8 "state_that_differs" ["first", "second"] (spX_state_that_differs (CA "InvalidSequence") (CA "TooLong") (CA "SameEffect")))
    (G_states_before : Has P w K mg base 8 "states_before" ["sequence", "state", "kinds"] sp_states_before) (GX_states_before : HasX P w K mg base 8 "states_before" ["sequence", "state", "kinds"] (spX_states_before (CA "InvalidSequence") (CA "TooLong") (CA "InvalidState") (CA "InvalidKinds"))) :
    Has P w K mg base 10 "_law_error" ["door", "parts"] sp_law_error := by
  refine has_of D sc_law_error (fun _ _ _ _ _ _ us hl => match us, hl with | [_, _], _ => rfl) (fun vs H Q E h => ?_) (fun f cdv A outer s₀ H vs Q E hr h => ?_)
  · obtain ⟨_, _, _, _, rfl, _⟩ := h
    rfl
  · obtain ⟨k, pq, ps, due, rfl, hp, er, q⟩ := h
    have lb : ∀ {H1 : Hp} {a : Addr}, Same H H1 → H1 a = none → ∀ {o H2}, Same (upd H1 a o) H2 → Same H H2 := fun s n _ _ s2 => s.trans ((same_upd n).trans s2)
    have nFS : nameOf "InvalidSequence" = "sequence" := by decide +kernel
    have nFL : nameOf "TooLong" = "long" := by decide +kernel
    have nFK : nameOf "InvalidKind" = "kind" := by decide +kernel
    have nFF : nameOf "InvalidEffects" = "effects" := by decide +kernel
    have nFT : nameOf "InvalidState" = "state" := by decide +kernel
    have nFN : nameOf "InvalidKinds" = "kinds" := by decide +kernel
    have nFE : nameOf "SameEffect" = "same" := by decide +kernel
    refine ⟨_, (pss_cons (ps_set (i := 2) sc_law_error.nd rfl (by first | exact Or.inl rfl | exact Or.inr rfl) pe_non)
    (pss_cons (ps_try_keep (i := 3) (j := 2) rfl rfl sc_law_error.nd rfl rfl ⟨rfl, by decide, .inl (CM.all "PairError" (by decide))⟩ rfl (fun W pn xe tk _ => (pss_one (ps_if (pt_cmpR op_eq (pv 0) pe_int (nomark _)) (pss_one (ps_expr (pe_callEX G_effect_of GX_effect_of tk (hr.mono (by omega)) (hr.mono (by omega)) (by rfl) (pa_cons (pe_ix (ix_tupK (K := K) rfl) (pv 1) pe_int (fun _ _ => rfl)) (pa_cons (pe_ix (ix_tupK (K := K) rfl) (pv 1) pe_int (fun _ _ => rfl)) pa_nil))))) (pss_one (ps_if (pt_cmpR op_eq (pv 0) pe_int (nomark _)) (pss_one (ps_expr (pe_callEX G_effect_on GX_effect_on tk (hr.mono (by omega)) (hr.mono (by omega)) (by rfl) (pa_cons (pe_ix (ix_tupK (K := K) rfl) (pv 1) pe_int (fun _ _ => rfl)) (pa_cons (pe_ix (ix_tupK (K := K) rfl) (pv 1) pe_int (fun _ _ => rfl)) (pa_cons (pe_ix (ix_tupK (K := K) rfl) (pv 1) pe_int (fun _ _ => rfl)) pa_nil)))))) (pss_one (ps_if (pt_cmpR op_eq (pv 0) pe_int (nomark _)) (pss_one (ps_expr (pe_callEX G_have_same_effect GX_have_same_effect tk (hr.mono (by omega)) (hr.mono (by omega)) (by rfl) (pa_cons (pe_ix (ix_tupK (K := K) rfl) (pv 1) pe_int (fun _ _ => rfl)) (pa_cons (pe_ix (ix_tupK (K := K) rfl) (pv 1) pe_int (fun _ _ => rfl)) pa_nil))))) (pss_one (ps_if (pt_cmpR op_eq (pv 0) pe_int (nomark _)) (pss_one (ps_expr (pe_callXH GX_state_that_differs tk (hr.mono (by omega)) (by rfl) (pa_cons (pe_ix (ix_tupK (K := K) rfl) (pv 1) pe_int (fun _ _ => rfl)) (pa_cons (pe_ix (ix_tupK (K := K) rfl) (pv 1) pe_int (fun _ _ => rfl)) pa_nil))))) (pss_one (ps_expr (pe_callEX G_states_before GX_states_before tk (hr.mono (by omega)) (hr.mono (by omega)) (by rfl) (pa_cons (pe_ix (ix_tupK (K := K) rfl) (pv 1) pe_int (fun _ _ => rfl)) (pa_cons (pe_ix (ix_tupK (K := K) rfl) (pv 1) pe_int (fun _ _ => rfl)) (pa_cons (pe_ix (ix_tupK (K := K) rfl) (pv 1) pe_int (fun _ _ => rfl)) pa_nil))))))))))))))) (fun a pn => pss_one (ps_set (i := 2) sc_law_error.nd rfl (by first | exact Or.inl rfl | exact Or.inr rfl) (pv 3))))
    (pss_one (ps_ret (pe_ifExp (pt_cmpR op_isN (pv 2) pe_non (nomark _)) pe_str (pe_callH G_law_kind_of (hr.mono (by omega)) (by rfl) (pa_cons (pv 2) pa_nil))))))), ?_⟩
    cases er with
    | d0q fm fx h =>
      obtain ⟨t, x, y, rfl, ht, hx, hy⟩ := tup2_of hp
      exact ⟨_, rfl, rfl, _, rfl, iteP rfl ⟨_, rfl, t, _, 0, _, rfl, rfl, .of ht, rfl, _, rfl, t, _, 1, _, rfl, rfl, .of ht, rfl, .inr ⟨x, y, _, _, rfl, hx, fm, hy, fx, .inl (.inl ⟨h, fun H1 s1 => ⟨FS.em, rfl, fun x nx => ⟨_, rfl, rfl, _, rfl, iteN rfl ⟨_, rfl, x, "InvalidSequence", rfl, upd_same, FS, by decide +kernel, fun H2 s2 => by rw [nFS]; exact q _ (lb s1 nx s2)⟩⟩⟩⟩)⟩⟩⟩
    | d0l fm fx q0 h =>
      obtain ⟨t, x, y, rfl, ht, hx, hy⟩ := tup2_of hp
      exact ⟨_, rfl, rfl, _, rfl, iteP rfl ⟨_, rfl, t, _, 0, _, rfl, rfl, .of ht, rfl, _, rfl, t, _, 1, _, rfl, rfl, .of ht, rfl, .inr ⟨x, y, _, _, rfl, hx, fm, hy, fx, .inl (.inr ⟨q0, h, fun H1 s1 => ⟨FL.em, rfl, fun x nx => ⟨_, rfl, rfl, _, rfl, iteN rfl ⟨_, rfl, x, "TooLong", rfl, upd_same, FL, by decide +kernel, fun H2 s2 => by rw [nFL]; exact q _ (lb s1 nx s2)⟩⟩⟩⟩)⟩⟩⟩
    | d0k fm fx sh h =>
      obtain ⟨t, x, y, rfl, ht, hx, hy⟩ := tup2_of hp
      exact ⟨_, rfl, rfl, _, rfl, iteP rfl ⟨_, rfl, t, _, 0, _, rfl, rfl, .of ht, rfl, _, rfl, t, _, 1, _, rfl, rfl, .of ht, rfl, .inr ⟨x, y, _, _, rfl, hx, fm, hy, fx, .inr ⟨sh, h, fun H1 s1 => ⟨FK.em, rfl, fun x nx => ⟨_, rfl, rfl, _, rfl, iteN rfl ⟨_, rfl, x, "InvalidKind", rfl, upd_same, FK, by decide +kernel, fun H2 s2 => by rw [nFK]; exact q _ (lb s1 nx s2)⟩⟩⟩⟩⟩⟩⟩
    | d0o sh kk =>
      obtain ⟨t, x, y, rfl, ht, hx, hy⟩ := tup2_of hp
      obtain ⟨hR, ok, l4⟩ := short_rp hx sh
      cases hy
      exact ⟨_, rfl, rfl, _, rfl, iteP rfl ⟨_, rfl, t, _, 0, _, rfl, rfl, .of ht, rfl, _, rfl, t, _, 1, _, rfl, rfl, .of ht, rfl, .inl ⟨x, _, _, rfl, hR, ok, l4, kk, fun H1 p es s1 np h1 h2 => ⟨_, rfl, rfl, _, rfl, iteP rfl (q _ s1)⟩⟩⟩⟩
    | d1k fm fx ff h =>
      obtain ⟨t, x, y, z, rfl, ht, hx, hy, hz⟩ := tup3_of hp
      exact ⟨_, rfl, rfl, _, rfl, iteN rfl ⟨_, rfl, rfl, _, rfl, iteP rfl ⟨_, rfl, t, _, 0, _, rfl, rfl, .of ht, rfl, _, rfl, t, _, 1, _, rfl, rfl, .of ht, rfl, _, rfl, t, _, 2, _, rfl, rfl, .of ht, rfl, .inr ⟨x, y, z, _, _, _, rfl, hx, fm, hy, fx, hz, ff, .inl ⟨h, fun H1 s1 => ⟨FK.em, rfl, fun x nx => ⟨_, rfl, rfl, _, rfl, iteN rfl ⟨_, rfl, x, "InvalidKind", rfl, upd_same, FK, by decide +kernel, fun H2 s2 => by rw [nFK]; exact q _ (lb s1 nx s2)⟩⟩⟩⟩⟩⟩⟩⟩
    | d1f fm fx ff kt h =>
      obtain ⟨t, x, y, z, rfl, ht, hx, hy, hz⟩ := tup3_of hp
      exact ⟨_, rfl, rfl, _, rfl, iteN rfl ⟨_, rfl, rfl, _, rfl, iteP rfl ⟨_, rfl, t, _, 0, _, rfl, rfl, .of ht, rfl, _, rfl, t, _, 1, _, rfl, rfl, .of ht, rfl, _, rfl, t, _, 2, _, rfl, rfl, .of ht, rfl, .inr ⟨x, y, z, _, _, _, rfl, hx, fm, hy, fx, hz, ff, .inr ⟨_, rfl, kt, .inl ⟨h, fun H1 s1 => ⟨FF.em, rfl, fun x nx => ⟨_, rfl, rfl, _, rfl, iteN rfl ⟨_, rfl, x, "InvalidEffects", rfl, upd_same, FF, by decide +kernel, fun H2 s2 => by rw [nFF]; exact q _ (lb s1 nx s2)⟩⟩⟩⟩⟩⟩⟩⟩⟩
    | d1t fm fx ff kt h h1 =>
      obtain ⟨t, x, y, z, rfl, ht, hx, hy, hz⟩ := tup3_of hp
      exact ⟨_, rfl, rfl, _, rfl, iteN rfl ⟨_, rfl, rfl, _, rfl, iteP rfl ⟨_, rfl, t, _, 0, _, rfl, rfl, .of ht, rfl, _, rfl, t, _, 1, _, rfl, rfl, .of ht, rfl, _, rfl, t, _, 2, _, rfl, rfl, .of ht, rfl, .inr ⟨x, y, z, _, _, _, rfl, hx, fm, hy, fx, hz, ff, .inr ⟨_, rfl, kt, .inr ⟨h, h1, fun H1 s1 => ⟨FT.em, rfl, fun x nx => ⟨_, rfl, rfl, _, rfl, iteN rfl ⟨_, rfl, x, "InvalidState", rfl, upd_same, FT, by decide +kernel, fun H2 s2 => by rw [nFT]; exact q _ (lb s1 nx s2)⟩⟩⟩⟩⟩⟩⟩⟩⟩
    | d1o =>
      obtain ⟨t, x, y, z, rfl, ht, hx, hy, hz⟩ := tup3_of hp
      cases hy
      cases hz
      obtain ⟨b, xs, rfl, hb, hbp⟩ := hx.seq (l := List.replicate 401 Dat.non) rfl
      refine ⟨_, rfl, rfl, _, rfl, iteN rfl ⟨_, rfl, rfl, _, rfl, iteP rfl ⟨_, rfl, t, _, 0, _, rfl, rfl, .of ht, rfl, _, rfl, t, _, 1, _, rfl, rfl, .of ht, rfl, _, rfl, t, _, 2, _, rfl, rfl, .of ht, rfl, .inl ?_⟩⟩⟩
      refine ⟨_, _, "a", List.replicate 401 none, 0, 0, rfl, ⟨b, xs, rfl, hb, nons_of hbp⟩, ⟨by rw [List.length_replicate]; decide, fun e he r hr => ?_, ?_, Int.le_refl _⟩, by decide +kernel, rfl, Int.le_refl _, fun e _ _ H1 v1 s1 _ => ⟨_, rfl, rfl, _, rfl, iteP rfl (q _ s1)⟩, fun h => ?_⟩
      · rw [(List.mem_replicate.mp he).2] at hr
        cases hr
      · rw [List.getLast?_eq_getElem?, List.length_replicate, List.getElem?_replicate]
        rfl
      · rw [List.length_replicate] at h
        exact absurd h (by decide)
    | d2q fm fx h =>
      obtain ⟨t, x, y, rfl, ht, hx, hy⟩ := tup2_of hp
      exact ⟨_, rfl, rfl, _, rfl, iteN rfl ⟨_, rfl, rfl, _, rfl, iteN rfl ⟨_, rfl, rfl, _, rfl, iteP rfl ⟨_, rfl, t, _, 0, _, rfl, rfl, .of ht, rfl, _, rfl, t, _, 1, _, rfl, rfl, .of ht, rfl, .inr ⟨x, y, _, _, rfl, hx, fm, hy, fx, .inl (.inl ⟨h, fun H1 s1 => ⟨FS.em, rfl, fun x nx => ⟨_, rfl, rfl, _, rfl, iteN rfl ⟨_, rfl, x, "InvalidSequence", rfl, upd_same, FS, by decide +kernel, fun H2 s2 => by rw [nFS]; exact q _ (lb s1 nx s2)⟩⟩⟩⟩)⟩⟩⟩⟩⟩
    | d2l fm fx q0 h =>
      obtain ⟨t, x, y, rfl, ht, hx, hy⟩ := tup2_of hp
      exact ⟨_, rfl, rfl, _, rfl, iteN rfl ⟨_, rfl, rfl, _, rfl, iteN rfl ⟨_, rfl, rfl, _, rfl, iteP rfl ⟨_, rfl, t, _, 0, _, rfl, rfl, .of ht, rfl, _, rfl, t, _, 1, _, rfl, rfl, .of ht, rfl, .inr ⟨x, y, _, _, rfl, hx, fm, hy, fx, .inl (.inr ⟨q0, h, fun H1 s1 => ⟨FL.em, rfl, fun x nx => ⟨_, rfl, rfl, _, rfl, iteN rfl ⟨_, rfl, x, "TooLong", rfl, upd_same, FL, by decide +kernel, fun H2 s2 => by rw [nFL]; exact q _ (lb s1 nx s2)⟩⟩⟩⟩)⟩⟩⟩⟩⟩
    | d2r fm fx sh h =>
      obtain ⟨t, x, y, rfl, ht, hx, hy⟩ := tup2_of hp
      exact ⟨_, rfl, rfl, _, rfl, iteN rfl ⟨_, rfl, rfl, _, rfl, iteN rfl ⟨_, rfl, rfl, _, rfl, iteP rfl ⟨_, rfl, t, _, 0, _, rfl, rfl, .of ht, rfl, _, rfl, t, _, 1, _, rfl, rfl, .of ht, rfl, .inr ⟨x, y, _, _, rfl, hx, fm, hy, fx, .inr ⟨sh, .inl ⟨h, fun H1 s1 => ⟨FS.em, rfl, fun x nx => ⟨_, rfl, rfl, _, rfl, iteN rfl ⟨_, rfl, x, "InvalidSequence", rfl, upd_same, FS, by decide +kernel, fun H2 s2 => by rw [nFS]; exact q _ (lb s1 nx s2)⟩⟩⟩⟩⟩⟩⟩⟩⟩⟩
    | d2m fm fx sh q0 h =>
      obtain ⟨t, x, y, rfl, ht, hx, hy⟩ := tup2_of hp
      exact ⟨_, rfl, rfl, _, rfl, iteN rfl ⟨_, rfl, rfl, _, rfl, iteN rfl ⟨_, rfl, rfl, _, rfl, iteP rfl ⟨_, rfl, t, _, 0, _, rfl, rfl, .of ht, rfl, _, rfl, t, _, 1, _, rfl, rfl, .of ht, rfl, .inr ⟨x, y, _, _, rfl, hx, fm, hy, fx, .inr ⟨sh, .inr ⟨q0, h, fun H1 s1 => ⟨FL.em, rfl, fun x nx => ⟨_, rfl, rfl, _, rfl, iteN rfl ⟨_, rfl, x, "TooLong", rfl, upd_same, FL, by decide +kernel, fun H2 s2 => by rw [nFL]; exact q _ (lb s1 nx s2)⟩⟩⟩⟩⟩⟩⟩⟩⟩⟩
    | d2o sh sx s20 =>
      obtain ⟨t, x, y, rfl, ht, hx, hy⟩ := tup2_of hp
      obtain ⟨hR, ok, l4⟩ := short_rp hx sh
      obtain ⟨hR2, ok2, l42⟩ := short_rp hy sx
      exact ⟨_, rfl, rfl, _, rfl, iteN rfl ⟨_, rfl, rfl, _, rfl, iteN rfl ⟨_, rfl, rfl, _, rfl, iteP rfl ⟨_, rfl, t, _, 0, _, rfl, rfl, .of ht, rfl, _, rfl, t, _, 1, _, rfl, rfl, .of ht, rfl, .inl ⟨x, y, _, _, rfl, hR, ok, l4, hR2, ok2, l42, s20, fun H1 r s1 _ => ⟨_, rfl, rfl, _, rfl, iteP rfl (q _ s1)⟩⟩⟩⟩⟩⟩
    | d3q fm fx h =>
      obtain ⟨t, x, y, rfl, ht, hx, hy⟩ := tup2_of hp
      exact ⟨_, rfl, rfl, _, rfl, iteN rfl ⟨_, rfl, rfl, _, rfl, iteN rfl ⟨_, rfl, rfl, _, rfl, iteN rfl ⟨_, rfl, rfl, _, rfl, iteP rfl ⟨_, rfl, t, _, 0, _, rfl, rfl, .of ht, rfl, _, rfl, t, _, 1, _, rfl, rfl, .of ht, rfl, x, y, _, _, rfl, hx, fm, hy, fx, .inl (.inl ⟨h, fun H1 s1 => ⟨FS.em, rfl, fun x nx => ⟨_, rfl, rfl, _, rfl, iteN rfl ⟨_, rfl, x, "InvalidSequence", rfl, upd_same, FS, by decide +kernel, fun H2 s2 => by rw [nFS]; exact q _ (lb s1 nx s2)⟩⟩⟩⟩)⟩⟩⟩⟩⟩
    | d3l fm fx q0 h =>
      obtain ⟨t, x, y, rfl, ht, hx, hy⟩ := tup2_of hp
      exact ⟨_, rfl, rfl, _, rfl, iteN rfl ⟨_, rfl, rfl, _, rfl, iteN rfl ⟨_, rfl, rfl, _, rfl, iteN rfl ⟨_, rfl, rfl, _, rfl, iteP rfl ⟨_, rfl, t, _, 0, _, rfl, rfl, .of ht, rfl, _, rfl, t, _, 1, _, rfl, rfl, .of ht, rfl, x, y, _, _, rfl, hx, fm, hy, fx, .inl (.inr ⟨q0, h, fun H1 s1 => ⟨FL.em, rfl, fun x nx => ⟨_, rfl, rfl, _, rfl, iteN rfl ⟨_, rfl, x, "TooLong", rfl, upd_same, FL, by decide +kernel, fun H2 s2 => by rw [nFL]; exact q _ (lb s1 nx s2)⟩⟩⟩⟩)⟩⟩⟩⟩⟩
    | d3r fm fx sh h =>
      obtain ⟨t, x, y, rfl, ht, hx, hy⟩ := tup2_of hp
      exact ⟨_, rfl, rfl, _, rfl, iteN rfl ⟨_, rfl, rfl, _, rfl, iteN rfl ⟨_, rfl, rfl, _, rfl, iteN rfl ⟨_, rfl, rfl, _, rfl, iteP rfl ⟨_, rfl, t, _, 0, _, rfl, rfl, .of ht, rfl, _, rfl, t, _, 1, _, rfl, rfl, .of ht, rfl, x, y, _, _, rfl, hx, fm, hy, fx, .inr (.inl ⟨sh, .inl ⟨h, fun H1 s1 => ⟨FS.em, rfl, fun x nx => ⟨_, rfl, rfl, _, rfl, iteN rfl ⟨_, rfl, x, "InvalidSequence", rfl, upd_same, FS, by decide +kernel, fun H2 s2 => by rw [nFS]; exact q _ (lb s1 nx s2)⟩⟩⟩⟩⟩)⟩⟩⟩⟩⟩
    | d3m fm fx sh q0 h =>
      obtain ⟨t, x, y, rfl, ht, hx, hy⟩ := tup2_of hp
      exact ⟨_, rfl, rfl, _, rfl, iteN rfl ⟨_, rfl, rfl, _, rfl, iteN rfl ⟨_, rfl, rfl, _, rfl, iteN rfl ⟨_, rfl, rfl, _, rfl, iteP rfl ⟨_, rfl, t, _, 0, _, rfl, rfl, .of ht, rfl, _, rfl, t, _, 1, _, rfl, rfl, .of ht, rfl, x, y, _, _, rfl, hx, fm, hy, fx, .inr (.inl ⟨sh, .inr ⟨q0, h, fun H1 s1 => ⟨FL.em, rfl, fun x nx => ⟨_, rfl, rfl, _, rfl, iteN rfl ⟨_, rfl, x, "TooLong", rfl, upd_same, FL, by decide +kernel, fun H2 s2 => by rw [nFL]; exact q _ (lb s1 nx s2)⟩⟩⟩⟩⟩)⟩⟩⟩⟩⟩
    | d3s fm fx sh sx s20 h =>
      obtain ⟨t, x, y, rfl, ht, hx, hy⟩ := tup2_of hp
      exact ⟨_, rfl, rfl, _, rfl, iteN rfl ⟨_, rfl, rfl, _, rfl, iteN rfl ⟨_, rfl, rfl, _, rfl, iteN rfl ⟨_, rfl, rfl, _, rfl, iteP rfl ⟨_, rfl, t, _, 0, _, rfl, rfl, .of ht, rfl, _, rfl, t, _, 1, _, rfl, rfl, .of ht, rfl, x, y, _, _, rfl, hx, fm, hy, fx, .inr (.inr ⟨sh, sx, s20, fun _ H1 s1 => ⟨FE.em, rfl, fun x nx => ⟨_, rfl, rfl, _, rfl, iteN rfl ⟨_, rfl, x, "SameEffect", rfl, upd_same, FE, by decide +kernel, fun H2 s2 => by rw [nFE]; exact q _ (lb s1 nx s2)⟩⟩⟩, fun n => absurd h n⟩)⟩⟩⟩⟩⟩
    | d3o fm fx sh sx s20 h =>
      obtain ⟨t, x, y, rfl, ht, hx, hy⟩ := tup2_of hp
      exact ⟨_, rfl, rfl, _, rfl, iteN rfl ⟨_, rfl, rfl, _, rfl, iteN rfl ⟨_, rfl, rfl, _, rfl, iteN rfl ⟨_, rfl, rfl, _, rfl, iteP rfl ⟨_, rfl, t, _, 0, _, rfl, rfl, .of ht, rfl, _, rfl, t, _, 1, _, rfl, rfl, .of ht, rfl, x, y, _, _, rfl, hx, fm, hy, fx, .inr (.inr ⟨sh, sx, s20, fun n => absurd n h, fun _ H1 v1 s1 => ⟨_, rfl, rfl, _, rfl, iteP rfl (q _ s1)⟩⟩)⟩⟩⟩⟩⟩
    | d4q fm fx ff h =>
      obtain ⟨t, x, y, z, rfl, ht, hx, hy, hz⟩ := tup3_of hp
      exact ⟨_, rfl, rfl, _, rfl, iteN rfl ⟨_, rfl, rfl, _, rfl, iteN rfl ⟨_, rfl, rfl, _, rfl, iteN rfl ⟨_, rfl, rfl, _, rfl, iteN rfl ⟨_, rfl, t, _, 0, _, rfl, rfl, .of ht, rfl, _, rfl, t, _, 1, _, rfl, rfl, .of ht, rfl, _, rfl, t, _, 2, _, rfl, rfl, .of ht, rfl, .inr ⟨x, y, z, _, _, _, rfl, hx, fm, hy, fx, hz, ff, .inl (.inl ⟨h, fun H1 s1 => ⟨FS.em, rfl, fun x nx => ⟨_, rfl, rfl, _, rfl, iteN rfl ⟨_, rfl, x, "InvalidSequence", rfl, upd_same, FS, by decide +kernel, fun H2 s2 => by rw [nFS]; exact q _ (lb s1 nx s2)⟩⟩⟩⟩)⟩⟩⟩⟩⟩⟩
    | d4l fm fx ff q0 h =>
      obtain ⟨t, x, y, z, rfl, ht, hx, hy, hz⟩ := tup3_of hp
      exact ⟨_, rfl, rfl, _, rfl, iteN rfl ⟨_, rfl, rfl, _, rfl, iteN rfl ⟨_, rfl, rfl, _, rfl, iteN rfl ⟨_, rfl, rfl, _, rfl, iteN rfl ⟨_, rfl, t, _, 0, _, rfl, rfl, .of ht, rfl, _, rfl, t, _, 1, _, rfl, rfl, .of ht, rfl, _, rfl, t, _, 2, _, rfl, rfl, .of ht, rfl, .inr ⟨x, y, z, _, _, _, rfl, hx, fm, hy, fx, hz, ff, .inl (.inr ⟨q0, h, fun H1 s1 => ⟨FL.em, rfl, fun x nx => ⟨_, rfl, rfl, _, rfl, iteN rfl ⟨_, rfl, x, "TooLong", rfl, upd_same, FL, by decide +kernel, fun H2 s2 => by rw [nFL]; exact q _ (lb s1 nx s2)⟩⟩⟩⟩)⟩⟩⟩⟩⟩⟩
    | d4t fm fx ff sh h =>
      obtain ⟨t, x, y, z, rfl, ht, hx, hy, hz⟩ := tup3_of hp
      exact ⟨_, rfl, rfl, _, rfl, iteN rfl ⟨_, rfl, rfl, _, rfl, iteN rfl ⟨_, rfl, rfl, _, rfl, iteN rfl ⟨_, rfl, rfl, _, rfl, iteN rfl ⟨_, rfl, t, _, 0, _, rfl, rfl, .of ht, rfl, _, rfl, t, _, 1, _, rfl, rfl, .of ht, rfl, _, rfl, t, _, 2, _, rfl, rfl, .of ht, rfl, .inr ⟨x, y, z, _, _, _, rfl, hx, fm, hy, fx, hz, ff, .inr (.inl ⟨sh, h, fun H1 s1 => ⟨FT.em, rfl, fun x nx => ⟨_, rfl, rfl, _, rfl, iteN rfl ⟨_, rfl, x, "InvalidState", rfl, upd_same, FT, by decide +kernel, fun H2 s2 => by rw [nFT]; exact q _ (lb s1 nx s2)⟩⟩⟩⟩)⟩⟩⟩⟩⟩⟩
    | d4k fm fx ff sh c h =>
      obtain ⟨t, x, y, z, rfl, ht, hx, hy, hz⟩ := tup3_of hp
      exact ⟨_, rfl, rfl, _, rfl, iteN rfl ⟨_, rfl, rfl, _, rfl, iteN rfl ⟨_, rfl, rfl, _, rfl, iteN rfl ⟨_, rfl, rfl, _, rfl, iteN rfl ⟨_, rfl, t, _, 0, _, rfl, rfl, .of ht, rfl, _, rfl, t, _, 1, _, rfl, rfl, .of ht, rfl, _, rfl, t, _, 2, _, rfl, rfl, .of ht, rfl, .inr ⟨x, y, z, _, _, _, rfl, hx, fm, hy, fx, hz, ff, .inr (.inr ⟨sh, c, h, fun H1 s1 => ⟨FN.em, rfl, fun x nx => ⟨_, rfl, rfl, _, rfl, iteN rfl ⟨_, rfl, x, "InvalidKinds", rfl, upd_same, FN, by decide +kernel, fun H2 s2 => by rw [nFN]; exact q _ (lb s1 nx s2)⟩⟩⟩⟩)⟩⟩⟩⟩⟩⟩
    | d4o sh c hk =>
      obtain ⟨t, x, y, z, rfl, ht, hx, hy, hz⟩ := tup3_of hp
      obtain ⟨hR, ok, l4⟩ := short_rp hx sh
      obtain ⟨hg, so⟩ := state_rp hy c
      obtain ⟨b, xs, rfl, hb, hbp⟩ := hz.seq rfl
      rw [strs_of hbp] at hb
      exact ⟨_, rfl, rfl, _, rfl, iteN rfl ⟨_, rfl, rfl, _, rfl, iteN rfl ⟨_, rfl, rfl, _, rfl, iteN rfl ⟨_, rfl, rfl, _, rfl, iteN rfl ⟨_, rfl, t, _, 0, _, rfl, rfl, .of ht, rfl, _, rfl, t, _, 1, _, rfl, rfl, .of ht, rfl, _, rfl, t, _, 2, _, rfl, rfl, .of ht, rfl, .inl ⟨x, y, b, _, _, _, rfl, hR, ok, l4, hg, so, hb, hk, fun H1 p s1 np h1 => ⟨_, rfl, rfl, _, rfl, iteP rfl (q _ s1)⟩⟩⟩⟩⟩⟩⟩
end
end UP

set_option Elab.async false
set_option linter.all false
set_option maxRecDepth 100000
set_option maxHeartbeats 4000000
set_option pp.maxSteps 700
namespace UP
open PySem PySem.Spec PyProof.Rows L2
theorem q30 : (10 : Int) ^ ((30 : Int).toNat) = 1000000000000000000000000000000 := by decide +kernel
theorem q39 : (10 : Int) ^ ((39 : Int).toNat) = 1000000000000000000000000000000000000000 := by decide +kernel
def Dat.fitB : Dat → Bool
  | .str z => decide (z.length ≤ 4000)
  | _ => true
def Dat.fit2B (d : Dat) : Bool := match d.two with
  | some (x, _) => x.fitB
  | none => true
def Dat.fitsB (d : Dat) : Bool := match d.parts with
  | some l => decide (l.length ≤ 100000) && l.all Dat.fit2B
  | none => true
theorem fitB_ok {d : Dat} (h : d.fitB = true) : d.fit := by
  cases d with
  | str z =>
    have h : decide (z.length ≤ 4000) = true := h
    show z.length ≤ 4000
    exact of_decide_eq_true h
  | _ => exact trivial
theorem fit2B_ok {d : Dat} (h : d.fit2B = true) : d.fit2 := by
  intro x y e
  unfold Dat.fit2B at h
  rw [e] at h
  exact fitB_ok h
theorem fitsB_ok {d : Dat} (h : d.fitsB = true) : d.fits := by
  intro l e
  unfold Dat.fitsB at h
  rw [e] at h
  have h : (decide (l.length ≤ 100000) && l.all Dat.fit2B) = true := h
  rw [Bool.and_eq_true] at h
  exact ⟨of_decide_eq_true h.1, fun x hx => fit2B_ok (List.all_eq_true.mp h.2 x hx)⟩
/-! ### the size of a repr -/
structure Nis (w n : Nat) (d : PyData) : Prop where
  dep : d.depth ≤ n
  sho : d.showable = true
  lea : d.leavesShort 100 = true
  wei : d.weight ≤ w
def nisB (w n : Nat) (d : PyData) : Bool := decide (d.depth ≤ n) && (d.showable && (d.leavesShort 100 && decide (d.weight ≤ w)))
theorem nis_of {w n : Nat} {d : PyData} (h : nisB w n d = true) : Nis w n d := by
  unfold nisB at h
  rw [Bool.and_eq_true, Bool.and_eq_true, Bool.and_eq_true] at h
  exact ⟨of_decide_eq_true h.1, h.2.1, h.2.2.1, of_decide_eq_true h.2.2.2⟩
theorem Nis.fits {w n : Nat} {d : PyData} (h : Nis w n d) (hw : w ≤ 150000) (hn : n ≤ 64) : d.showable = true ∧ d.depth ≤ 64 ∧ d.shown.length ≤ sizeLine := by
  refine ⟨h.sho, Nat.le_trans h.dep hn, ?_⟩
  have h1 := PyData.shown_le 100 (by decide) d h.lea
  have h2 := h.wei
  have h3 : d.shown.length ≤ 16000000 := by omega
  exact Nat.le_trans h3 (by decide)
theorem Nis.mono {w w' n n' : Nat} {d : PyData} (h : Nis w n d) (h1 : w ≤ w') (h2 : n ≤ n') : Nis w' n' d := ⟨Nat.le_trans h.dep h2, h.sho, h.lea, Nat.le_trans h.wei h1⟩
theorem nis_non : Nis 0 0 .none := ⟨Nat.le_refl _, rfl, rfl, Nat.le_refl _⟩
theorem nis_str {s : Str} (h : KindOk s) : Nis 8 0 (.str s) := by
  refine ⟨Nat.le_refl _, rfl, ?_, h.2.1⟩
  rw [PyData.leavesShort, List.all_eq_true]
  intro c hc
  have := h.2.2 c hc
  exact decide_eq_true (by omega)
theorem nis_int {i : Int} (h : i.natAbs < 10 ^ 60) : Nis 201 0 (.int i) := by
  have h2 : i.natAbs < 2 ^ 200 := Nat.lt_of_lt_of_le h (by decide)
  have h3 : i.natAbs.log2 < 200 := by
    by_cases z : i.natAbs = 0
    · rw [z]
      decide
    · exact (Nat.log2_lt z).mpr h2
  refine ⟨Nat.le_refl _, ?_, ?_, ?_⟩
  · rw [PyData.showable]
    exact decide_eq_true (by omega)
  · rw [PyData.leavesShort]
    refine decide_eq_true ?_
    have e := int_text_length_le10 (k := 60) (by decide) h
    show (Str.ofString (toString i)).length ≤ 100
    rw [PySem.ofString_length]
    omega
  · rw [PyData.weight]
    split <;> omega
theorem nis_items {w n : Nat} : ∀ {ds : List PyData}, (∀ d ∈ ds, Nis w n d) → PyData.depthAll ds ≤ n ∧ PyData.showableAll ds = true ∧ PyData.leavesShortAll 100 ds = true ∧ PyData.weightAll ds ≤ (w + 1) * ds.length
  | [], _ => ⟨Nat.zero_le _, rfl, rfl, Nat.zero_le _⟩
  | d :: t, h => by
    have h1 := h d (List.mem_cons_self ..)
    obtain ⟨a, b, c, e⟩ := nis_items (ds := t) fun x hx => h x (List.mem_cons_of_mem _ hx)
    refine ⟨?_, ?_, ?_, ?_⟩
    · rw [PyData.depthAll]
      exact Nat.max_le.mpr ⟨h1.dep, a⟩
    · rw [PyData.showableAll, h1.sho, b]
      rfl
    · rw [PyData.leavesShortAll, h1.lea, c]
      rfl
    · rw [PyData.weightAll, List.length_cons, Nat.mul_add]
      have := h1.wei
      omega
theorem nis_list {w n : Nat} {ds : List PyData} (h : ∀ d ∈ ds, Nis w n d) : Nis ((w + 1) * ds.length) (n + 1) (.list ds) := by
  obtain ⟨b, c, e, f⟩ := nis_items h
  exact ⟨by rw [PyData.depth]; omega, by rw [PyData.showable]; exact c, by rw [PyData.leavesShort]; exact e, by rw [PyData.weight]; exact f⟩
theorem nis_tup {w n : Nat} {ds : List PyData} (h : ∀ d ∈ ds, Nis w n d) : Nis ((w + 1) * ds.length) (n + 1) (.tuple ds) := by
  obtain ⟨b, c, e, f⟩ := nis_items h
  exact ⟨by rw [PyData.depth]; omega, by rw [PyData.showable]; exact c, by rw [PyData.leavesShort]; exact e, by rw [PyData.weight]; exact f⟩
theorem pys_map : ∀ (l : List Dat), Dat.pys l = l.map Dat.py
  | [] => rfl
  | x :: t => congrArg (x.py :: ·) (pys_map t)
theorem nis_lst {w n : Nat} {l : List Dat} (h : ∀ d ∈ l, Nis w n d.py) : Nis ((w + 1) * l.length) (n + 1) (Dat.lst l).py := by
  have := nis_list (w := w) (n := n) (ds := Dat.pys l) fun d hd => by
    rw [pys_map] at hd
    obtain ⟨x, hx, rfl⟩ := List.mem_map.mp hd
    exact h x hx
  rw [pys_map, List.length_map, ← pys_map] at this
  exact this
theorem nilN : ∀ x ∈ ([] : List Dat), Nis 500 3 x.py := fun x hx => by cases hx
theorem consN {y : Dat} {l : List Dat} (h : Nis 500 3 y.py) (t : ∀ x ∈ l, Nis 500 3 x.py) : ∀ x ∈ y :: l, Nis 500 3 x.py := fun d hd => by
  rcases List.mem_cons.mp hd with e | e
  · rw [e]
    exact h
  · exact t d e
theorem nis_tupD {w n : Nat} {l : List Dat} (h : ∀ d ∈ l, Nis w n d.py) : Nis ((w + 1) * l.length) (n + 1) (Dat.tup l).py := by
  have := nis_tup (w := w) (n := n) (ds := Dat.pys l) fun d hd => by
    rw [pys_map] at hd
    obtain ⟨x, hx, rfl⟩ := List.mem_map.mp hd
    exact h x hx
  rw [pys_map, List.length_map, ← pys_map] at this
  exact this
theorem nis_three {a b c : PyData} {wa wb wc n : Nat} (ha : Nis wa n a) (hb : Nis wb n b) (hc : Nis wc n c) : Nis (wa + wb + wc + 3) (n + 1) (.tuple [a, b, c]) := by
  have a1 := ha.dep
  have b1 := hb.dep
  have c1 := hc.dep
  have a2 := ha.wei
  have b2 := hb.wei
  have c2 := hc.wei
  refine ⟨?_, ?_, ?_, ?_⟩
  · rw [PyData.depth, PyData.depthAll, PyData.depthAll, PyData.depthAll, PyData.depthAll]
    omega
  · rw [PyData.showable, PyData.showableAll, PyData.showableAll, PyData.showableAll, PyData.showableAll, ha.sho, hb.sho, hc.sho]
    rfl
  · rw [PyData.leavesShort, PyData.leavesShortAll, PyData.leavesShortAll, PyData.leavesShortAll, PyData.leavesShortAll, ha.lea, hb.lea, hc.lea]
    rfl
  · rw [PyData.weight, PyData.weightAll, PyData.weightAll, PyData.weightAll, PyData.weightAll]
    omega
theorem run_kc {k : Str} {c : Int} (hk : kindB k = true) (c1 : 1 ≤ c) (c2 : c ≤ 1000000000000000000000000000000) : (Dat.tup [.str k, .int c]).run = true := by
  show (kindB k && decide (1 ≤ c ∧ c ≤ 1000000000000000000000000000000)) = true
  rw [hk, decide_eq_true ⟨c1, c2⟩]
  rfl
theorem nis_row {k : Int} {ps : List Dat} {due : Str} (hk : k.natAbs < 10 ^ 60) (l : ps.length ≤ 3) (hd : Nis 100 0 (PyData.str due)) (h : ∀ x ∈ ps, Nis 500 3 x.py) : Nis 1900 6 (Dat.tup [.int k, .tup ps, .str due]).py := by
  have h1 := (nis_tupD h).mono (w' := 1503) (n' := 4) (by omega) (Nat.le_refl _)
  exact (nis_three ((nis_int hk).mono (Nat.le_refl _) (by decide)) h1 (hd.mono (Nat.le_refl _) (by decide))).mono (by decide) (by decide)
theorem bad1_all : ∀ d ∈ badM 1, d.state = false ∧ d.fit2B = true ∧ nisB 500 3 d.py = true := by decide +kernel
def GoodD (d : Dat) : Prop := (∃ (k : Int) (ps : List Dat) (due : Str), d = .tup [.int k, .tup ps, .str due] ∧ Err k ps due) ∧ Nis 1900 6 d.py
def GoodR (l : List Dat) : Prop := ∀ d ∈ l, GoodD d
theorem goodR_nil : GoodR [] := fun d hd => by cases hd
theorem goodR_cons {x : Dat} {l : List Dat} (h : GoodD x) (t : GoodR l) : GoodR (x :: l) := fun d hd => by
  rcases List.mem_cons.mp hd with e | e
  · rw [e]
    exact h
  · exact t d e
theorem goodR_app {a b : List Dat} (h : GoodR a) (t : GoodR b) : GoodR (a ++ b) := fun d hd => (List.mem_append.mp hd).elim (h d) (t d)
theorem gen_heap {T A : Hp → Prop} {h : Hp} (k : ∀ H', A H' → T H') (a : A h) : T h := k h a
/-! ### a heap without some addresses -/
def dl (S : List Addr) (H : Hp) : Hp := fun b => if b ∈ S then none else H b
theorem dl_in {S : List Addr} {H : Hp} {b : Addr} (h : b ∈ S) : dl S H b = none := if_pos h
theorem dl_out {S : List Addr} {H : Hp} {b : Addr} (h : b ∉ S) : dl S H b = H b := if_neg h
theorem dl_mono {S : List Addr} {H H' : Hp} (s : Same H H') : Same (dl S H) (dl S H') := fun b o e => by
  by_cases h : b ∈ S
  · rw [dl_in h] at e; cases e
  · rw [dl_out h] at e ⊢
    exact s _ _ e
theorem dl_sub {S : List Addr} {H : Hp} : Same (dl S H) H := fun b o e => by
  by_cases h : b ∈ S
  · rw [dl_in h] at e; cases e
  · rw [dl_out h] at e
    exact e
theorem dl_del {H : Hp} {p : Addr} : Same (delH H p) (dl [p] H) := fun b o e => by
  by_cases h : b = p
  · rw [h, delH_same] at e; cases e
  · rw [delH_ne h] at e
    rw [dl_out (by simpa using h)]
    exact e
theorem dl_RB {H H' : Hp} {p : Addr} (b : RB p H H') : Same (dl [p] H) (dl [p] H') := fun x o e => by
  by_cases h : x = p
  · rw [dl_in (by simp [h])] at e; cases e
  · have h2 : x ∉ [p] := by simpa using h
    rw [dl_out h2] at e ⊢
    exact b.but _ _ h e
/-- all of S is old -/
def Old (S : List Addr) (H : Hp) : Prop := ∀ b ∈ S, ∃ o, H b = some o
theorem Old.same {S : List Addr} {H H' : Hp} (s : Same H H') (h : Old S H) : Old S H' := fun b hb => by
  obtain ⟨o, e⟩ := h b hb
  exact ⟨o, s _ _ e⟩
theorem Old.ne {S : List Addr} {H : Hp} (h : Old S H) {n : Addr} (nn : H n = none) : n ∉ S := fun hm => by
  obtain ⟨o, e⟩ := h n hm
  rw [nn] at e
  cases e
theorem dl_put {S : List Addr} {H : Hp} {n : Addr} {o : HO} (h : n ∉ S) : dl S (upd H n o) n = some o := by
  rw [dl_out h, upd_same]
def LitD (S : List Addr) (σ : L2.St) (H0 : Hp) (t : TE) (d : Dat) : Prop := ∀ H (Q : VK), Same H0 H → (∀ H' v, Same H H' → Rp (dl S H') v d → Q v H') → t σ H Q
def LitsD (S : List Addr) (σ : L2.St) (H0 : Hp) (t : TA) (ds : List Dat) : Prop := ∀ H (Q : List V → Hp → Prop), Same H0 H → (∀ H' vs, Same H H' → Paired (Rp (dl S H')) vs ds → Q vs H') → t σ H Q
section
variable {S : List Addr} {σ : L2.St} {H0 : Hp}
theorem ld_non : LitD S σ H0 (tC .non) .non := fun H Q _ q => q H _ (Same.refl _) .non
theorem ld_int {n : Int} : LitD S σ H0 (tC (.int n)) (.int n) := fun H Q _ q => q H _ (Same.refl _) (.int n)
theorem ld_neg {n : Int} : LitD S σ H0 (tUn (rU fun i => V.int (-i)) (tC (.int n))) (.int (-n)) := fun H Q _ q => ⟨n, rfl, q H _ (Same.refl _) (.int _)⟩
theorem ld_val {t : TE} {v : V} {d : Dat} (h : ∀ H (Q : VK), Q v H → t σ H Q) (r : ∀ H, Rp H v d) : LitD S σ H0 t d := fun H Q _ q => h H Q (q H v (Same.refl _) (r _))
theorem ld_bl {b : Bool} : LitD S σ H0 (tC (.bl b)) (.bl b) := fun H Q _ q => q H _ (Same.refl _) (.bl b)
theorem ld_str {z : Str} : LitD S σ H0 (tC (.str z)) (.str z) := fun H Q _ q => q H _ (Same.refl _) (.str z)
theorem ld_dic (old : Old S H0) : LitD S σ H0 tDNewK .dic := fun H Q s q p np => q _ _ (same_upd np) (.dic (dl_put ((old.same s).ne np)))
theorem ld_var {i : Nat} {v : V} {d : Dat} (e : σ[i]? = some (some v)) (h : Rp (dl S H0) v d) : LitD S σ H0 (tVar i) d := fun H Q s q => ⟨v, e, q H v (Same.refl _) (h.same (dl_mono s))⟩
theorem lds_nil : LitsD S σ H0 tNil [] := fun H Q _ q => q H [] (Same.refl _) .nil
theorem lds_cons {t : TE} {ts : TA} {d : Dat} {ds : List Dat} (h1 : LitD S σ H0 t d) (h2 : LitsD S σ H0 ts ds) : LitsD S σ H0 (tCons t ts) (d :: ds) := fun H Q s q => h1 H _ s fun H1 v s1 r1 => h2 H1 _ (s.trans s1) fun H2 vs s2 r2 => q H2 (v :: vs) (s1.trans s2) (.cons (r1.same (dl_mono s2)) r2)
theorem rpsD {H H' : Hp} {xs : List V} {ds : List Dat} (s : Same H H') (h : Paired (Rp (dl S H)) xs ds) : Paired (Rp (dl S H')) xs ds := Paired.imp (fun _ _ => Rp.same (dl_mono s)) h
theorem ld_lst (old : Old S H0) {ts : TA} {ds : List Dat} (h : LitsD S σ H0 ts ds) (l : ds.length ≤ 1000) : LitD S σ H0 (tLst ts) (.lst ds) := fun H Q s q => h H _ s fun H1 vs s1 r => ⟨by rw [Paired.len r]; exact smallE (by omega), fun p np => q _ _ (s1.trans (same_upd np)) (.lst (dl_put ((old.same (s.trans s1)).ne np)) (rpsD (same_upd np) r))⟩
theorem ld_tup (old : Old S H0) {ts : TA} {ds : List Dat} (h : LitsD S σ H0 ts ds) (l : ds.length ≤ 1000) : LitD S σ H0 (tTup ts) (.tup ds) := fun H Q s q => h H _ s fun H1 vs s1 r => ⟨by rw [Paired.len r]; exact smallE (by omega), fun p np => q _ _ (s1.trans (same_upd np)) (.tup (dl_put ((old.same (s.trans s1)).ne np)) (rpsD (same_upd np) r))⟩
theorem dl_lst {H : Hp} {v : V} {l : List Dat} (h : Rp (dl S H) v (.lst l)) : ∃ a xs, v = .ref a ∧ H a = some (.lst xs) ∧ Paired (Rp (dl S H)) xs l := by
  cases h with
  | lst e p => exact ⟨_, _, rfl, dl_sub _ _ e, p⟩
/-- a list behind a list, the new one set apart -/
theorem ld_catN (old : Old S H0) {t u : TE} {a b : List Dat} (h1 : LitD S σ H0 t (.lst a)) (h2 : LitD S σ H0 u (.lst b)) (l : a.length + b.length ≤ 1000) {H : Hp} {Q : VK} (s : Same H0 H)
    (q : ∀ H2 rA xs, Same H H2 → H2 rA = none → rA ∉ S → Paired (Rp (dl S H2)) xs (a ++ b) → Q (.ref rA) (upd H2 rA (.lst xs))) : tOp rCat t u σ H Q := h1 H _ s fun H1 v s1 r1 => h2 H1 _ (s.trans s1) fun H2 w s2 r2 => by
  obtain ⟨x, xs, rfl, e1, p1⟩ := dl_lst (r1.same (dl_mono s2))
  obtain ⟨y, ys, rfl, e2, p2⟩ := dl_lst r2
  refine ⟨_, _, _, _, rfl, rfl, e1, e2, ?_, fun p np => q H2 p _ (s1.trans s2) np ((old.same (s.trans (s1.trans s2))).ne np) (Paired.app p1 p2)⟩
  rw [Paired.len p1, Paired.len p2]
  exact smallE (by omega)
theorem ld_cat (old : Old S H0) {t u : TE} {a b : List Dat} (h1 : LitD S σ H0 t (.lst a)) (h2 : LitD S σ H0 u (.lst b)) (l : a.length + b.length ≤ 1000) : LitD S σ H0 (tOp rCat t u) (.lst (a ++ b)) := fun H Q s q =>
  ld_catN old h1 h2 l s fun H2 rA xs s2 n nS p => q _ _ (s2.trans (same_upd n)) (.lst (dl_put nS) (rpsD (same_upd n) p))
theorem ld_set {t : TE} {d : Dat} {i : Nat} {D : Ends} {rest : TS} {H : Hp} (h : LitD S σ H t d) (q : ∀ H' v, Same H H' → Rp (dl S H') v d → rest D (σ.set i (some v)) H') : tSeq (tAsg t (gName i)) rest D σ H := h H _ (Same.refl _) q
theorem ld_setN {t u : TE} {a b : List Dat} {i : Nat} {D : Ends} {rest : TS} {H : Hp} (old : Old S H) (h1 : LitD S σ H t (.lst a)) (h2 : LitD S σ H u (.lst b)) (l : a.length + b.length ≤ 1000)
    (q : ∀ H2 rA xs, Same H H2 → H2 rA = none → rA ∉ S → Paired (Rp (dl S H2)) xs (a ++ b) → rest D (σ.set i (some (.ref rA))) (upd H2 rA (.lst xs))) : tSeq (tAsg (tOp rCat t u) (gName i)) rest D σ H := ld_catN old h1 h2 l (Same.refl _) q
theorem lds_go {ts : TA} {ds : List Dat} {H : Hp} {Q : List V → Hp → Prop} (h : LitsD S σ H ts ds) (q : ∀ H' vs, Same H H' → Paired (Rp (dl S H')) vs ds → Q vs H') : ts σ H Q := h H Q (Same.refl _) q
theorem ld_ix {K : PySem.W.Frag} {t u : TE} {ds : List Dat} {i : Nat} {D : Ends} {rest : TS} {H : Hp} (h : LitD S σ H t (.lst ds)) (q : ∀ H' v, Same H H' → Rp (dl S H') v (.lst ds) → u σ H' (fun y H2 => rIxL K v y H2 (fun x H3 => rest D (σ.set i (some x)) H3))) : tSeq (tAsg (tOp (rIxL K) t u) (gName i)) rest D σ H := h H _ (Same.refl _) q
end
theorem set_go {rest : TS} {D : Ends} {σ σ' : L2.St} {H : Hp} (e : σ = σ') (h : rest D σ' H) : rest D σ H := by
  rw [e]
  exact h
theorem gset_go {i : Nat} {v : V} {σ σ' : L2.St} {H : Hp} {k : L2.St → Hp → Prop} (e : σ.set i (some v) = σ') (h : k σ' H) : gName i v σ H k := by
  subst e
  exact h
theorem rp_atD {S : List Addr} {H : Hp} {v : V} {ds : List Dat} {i : Int} (h : Rp (dl S H) v (.lst ds)) (i0 : 0 ≤ i) (i1 : i.toNat < ds.length) : ∃ a xs x, v = .ref a ∧ H a = some (.lst xs) ∧ atI xs i = some x ∧ Rp (dl S H) x ds[i.toNat] := by
  obtain ⟨a, xs, x, e, h1, h2, h3⟩ := rp_at h i0 i1
  exact ⟨a, xs, x, e, dl_sub _ _ h1, h2, h3⟩
def Dat.fitKB (d : Dat) : Bool := match d.parts with
  | some l => decide (l.length ≤ 100000) && l.all Dat.fitB
  | none => true
theorem fitKB_ok {d : Dat} (h : d.fitKB = true) : d.fitK := by
  intro l e
  unfold Dat.fitKB at h
  rw [e] at h
  have h : (decide (l.length ≤ 100000) && l.all Dat.fitB) = true := h
  rw [Bool.and_eq_true] at h
  exact ⟨of_decide_eq_true h.1, fun x hx => fitB_ok (List.all_eq_true.mp h.2 x hx)⟩
/-! ### heaps without some addresses, more -/
theorem dlS_RB {S : List Addr} {H H' : Hp} {p : Addr} (m : p ∈ S) (b : RB p H H') : Same (dl S H) (dl S H') := fun x o e => by
  by_cases h : x ∈ S
  · rw [dl_in h] at e; cases e
  · rw [dl_out h] at e ⊢
    exact b.but _ _ (fun z => h (by rw [z]; exact m)) e
theorem dl_upd {S : List Addr} {H : Hp} {L : Addr} {o : HO} (m : L ∈ S) : Same (dl S H) (dl S (upd H L o)) := fun x u e => by
  by_cases h : x ∈ S
  · rw [dl_in h] at e; cases e
  · rw [dl_out h] at e ⊢
    rw [upd_ne (fun z => h (by rw [z]; exact m))]
    exact e
theorem newH_dl {S : List Addr} {H0 H : Hp} (old : Old S H0) : Same (newH H0 H) (dl S H) := fun b u e => by
  by_cases h : b ∈ S
  · obtain ⟨o, ho⟩ := old b h
    rw [newH_old ho] at e; cases e
  · rw [dl_out h]
    exact newH_sub _ _ e
theorem rep_nonD {H : Hp} : ∀ n : Nat, Paired (Rp H) (List.replicate n V.non) (List.replicate n Dat.non)
  | 0 => .nil
  | n + 1 => .cons .non (rep_nonD n)
theorem flat_non (n : Nat) : (List.replicate n [V.non]).flatten = List.replicate n V.non := by
  induction n with
  | zero => rfl
  | succ n ih =>
    rw [List.replicate_succ, List.flatten_cons, ih, List.replicate_succ]
    rfl
theorem ld_nons {S : List Addr} {σ : L2.St} {H0 : Hp} (old : Old S H0) {n : Int} (n0 : 0 ≤ n) (l : n ≤ 1000) : LitD S σ H0 (tOp rRep (tLst (tCons (tC .non) tNil)) (tC (.int n))) (.lst (List.replicate n.toNat .non)) := fun H Q s q => by
  refine ⟨by show 1 ≤ sizeLine; decide, fun e ne => ⟨e, n, _, rfl, rfl, upd_same, by omega, by omega, ?_, fun p np => ?_⟩⟩
  · refine smallE ?_
    show 1 * n.toNat ≤ _
    omega
  · have s2 := (same_upd (o := .lst [.non]) ne).trans (same_upd (o := .lst ((List.replicate n.toNat [V.non]).flatten)) np)
    refine q _ _ s2 (.lst (xs := List.replicate n.toNat V.non) ?_ (rep_nonD _))
    rw [dl_put ((old.same (s.trans (same_upd ne))).ne np), flat_non]
theorem lds_par3 {S : List Addr} {i j l : Nat} {ta : TA} {d1 d2 d3 : Dat} {rest : TS} {D : Ends} {σ : L2.St} {H : Hp} (h : LitsD S σ H ta [d1, d2, d3]) (q : ∀ H' x y z, Same H H' → Rp (dl S H') x d1 → Rp (dl S H') y d2 → Rp (dl S H') z d3 → rest D (((σ.set i (some x)).set j (some y)).set l (some z)) H') : tSeq (tPar3 i j l ta) rest D σ H := h H _ (Same.refl _) fun H' vs s hp => by
  cases hp with
  | cons h1 hp => cases hp with
    | cons h2 hp => cases hp with
      | cons h3 hp =>
        cases hp
        exact ⟨_, _, _, rfl, q _ _ _ _ s h1 h2 h3⟩
/-- a new list, set apart -/
theorem ld_lstN {S : List Addr} {ts : TA} {ds : List Dat} {i : Nat} {D : Ends} {rest : TS} {σ : L2.St} {H : Hp} (old : Old S H) (h : LitsD S σ H ts ds) (l : ds.length ≤ 1000)
    (q : ∀ H2 rA xs, Same H H2 → H2 rA = none → rA ∉ S → Paired (Rp (dl S H2)) xs ds → rest D (σ.set i (some (.ref rA))) (upd H2 rA (.lst xs))) : tSeq (tAsg (tLst ts) (gName i)) rest D σ H := h H _ (Same.refl _) fun H1 vs s1 r => ⟨by rw [Paired.len r]; exact smallE (by omega), fun p np => q H1 p vs s1 np ((old.same s1).ne np) r⟩
theorem gen_set {i : Nat} {v : V} {σ : L2.St} {H : Hp} {x : TS} {D : Ends} {n : Int} (e : v = .int n) (h : x D (σ.set i (some (.int n))) H) : gName i v σ H (Ends.nx { D with nx := x D }) := by
  subst e
  exact h
/-! ### the values -/
theorem bad0_all : ∀ d ∈ badM 0, d.seq = false ∧ d.fitsB = true ∧ nisB 500 3 d.py = true := by decide +kernel
theorem bad2_all : ∀ d ∈ badM 2, d.kind = false ∧ d.fitB = true ∧ nisB 500 3 d.py = true := by decide +kernel
theorem bad3_all : ∀ d ∈ badM 3, d.kinds = false ∧ d.fitKB = true ∧ nisB 500 3 d.py = true := by decide +kernel
def no402 : Dat := .lst (List.replicate (402 : Int).toNat .non)
def noE1 : List Dat := [.non, .lst [], .int 0, .str "a", .dic, .lst [.int 0], .lst [.tup [.str "a", .int 0]], .lst [.tup [.str "b", .int 1]], no402, .lst [.non, .tup [.str "a", .int 1], .tup [.str "c", .int 2]]]
def noE2 : List Dat := [.lst [.non, .int 5, .non], .lst [.non, .tup [.str "a", .int 0], .tup [.str "a", .int 1]], .lst [.non, .tup [.str "A", .int 1], .non]]
def noE : List Dat := noE1 ++ noE2
theorem noE_all : ∀ d ∈ noE, d.effs "a" = false ∧ d.fitsB = true ∧ nisB 500 3 d.py = true := by decide +kernel
def gD : Dat := .lst [.tup [.str "a", .int 2], .tup [.str "b", .int 1]]
def fD : Dat := .lst [.tup [.str "a", .int 399], .tup [.str "b", .int 1]]
def gR : List Run := [(("a" : Str), 2), (("b" : Str), 1)]
def fR : List Run := [(("a" : Str), 399), (("b" : Str), 1)]
def lD (f : Int) : Dat := .lst [.tup [.str "a", .int f]]
theorem short_of {d : Dat} (h : (d.seq && decide (lenR d.runs ≤ 400)) = true) : d.shortS := by
  rw [Bool.and_eq_true] at h
  exact ⟨h.1, of_decide_eq_true h.2⟩
theorem alleq_refl (rs : List Run) : AllEqB rs rs := fun _ _ _ => rfl
theorem alleq_of {A B : List Run} (h : A = B) : AllEqB A B := h ▸ alleq_refl A
theorem no_one : ¬ AllEqB gR [(("a" : Str), 1)] := fun h => absurd (h "c" 2 (by decide +kernel)) (show ¬ fxR (itR gR) "c" ((2 : Nat) : Int) = fxR (itR [(("a" : Str), 1)]) "c" ((2 : Nat) : Int) by decide +kernel)
theorem no_400 : ¬ AllEqB fR [(("a" : Str), 400)] := fun h => absurd (h "a" 0 (Nat.zero_le _)) (show ¬ fxR (itR fR) "a" ((0 : Nat) : Int) = fxR (itR [(("a" : Str), 400)]) "a" ((0 : Nat) : Int) by decide +kernel)
theorem ab_few {A B : List Run} (h : (A ++ B).all (fun r => decide (r.1 = "a") || decide (r.1 = "b")) = true) : (setS (itR A ++ itR B)).length ≤ 20 := by
  have ab : ∀ {R : List Run}, (∀ r ∈ R, r ∈ A ++ B) → ∀ x ∈ itR R, x ∈ (["a", "b"] : List Str) := fun {R} hr x hx => by
    obtain ⟨r, h1, h2⟩ := List.mem_flatMap.mp hx
    rw [List.eq_of_mem_replicate h2]
    have := List.all_eq_true.mp h r (hr r h1)
    rw [Bool.or_eq_true] at this
    rcases this with e | e
    · rw [of_decide_eq_true e]
      simp
    · rw [of_decide_eq_true e]
      simp
  have := nodup_sub (setS (itR A ++ itR B)) ["a", "b"] (setS_nodup _) fun x hx => by
    rcases List.mem_append.mp (setS_mem.mp hx) with h | h
    · exact ab (fun r hr => List.mem_append.mpr (.inl hr)) x h
    · exact ab (fun r hr => List.mem_append.mpr (.inr hr)) x h
  exact Nat.le_trans this (by decide)
end UP

set_option Elab.async false
set_option linter.all false
set_option maxRecDepth 100000
set_option maxHeartbeats 40000000
set_option pp.maxSteps 900
namespace UP
open PySem PySem.Spec PyProof.Rows L2
theorem four_ofD {F : V → Dat → Prop} {us : List V} {ds : List Dat} (h : Paired F us ds) (l : ds.length = 4) : ∃ x y z w a b c d, us = [x, y, z, w] ∧ ds = [a, b, c, d] ∧ F x a ∧ F y b ∧ F z c ∧ F w d := by
  match ds, l with
  | [a, b, c, d], _ =>
    cases h with
    | cons h1 h =>
    cases h with
    | cons h2 h =>
    cases h with
    | cons h3 h =>
    cases h with
    | cons h4 h =>
    cases h
    exact ⟨_, _, _, _, _, _, _, _, rfl, rfl, h1, h2, h3, h4⟩
theorem Old.rb {S : List Addr} {H H' : Hp} {p : Addr} (h : Old S H) (b : RB p H H') (z : Reel H' p) : Old S H' := fun x hx => by
  obtain ⟨o, e⟩ := h x hx
  by_cases c : x = p
  · rw [c]
    exact z.at
  · exact ⟨o, b.but _ _ c e⟩
theorem Old.cons {S : List Addr} {H : Hp} {x : Addr} (h : Old S H) (e : ∃ o, H x = some o) : Old (x :: S) H := fun b hb => by
  rcases List.mem_cons.mp hb with c | c
  · rw [c]
    exact e
  · exact h b c
theorem Old.upd {S : List Addr} {H : Hp} {x : Addr} {o : HO} (h : Old S H) : Old S (upd H x o) := fun b hb => by
  obtain ⟨u, e⟩ := h b hb
  by_cases c : b = x
  · rw [c]
    exact ⟨_, upd_same⟩
  · exact ⟨u, by rw [upd_ne c]; exact e⟩
theorem dl_more {S : List Addr} {H : Hp} {x : Addr} {o : HO} (n : H x = none) : Same (dl S H) (dl (x :: S) (upd H x o)) := fun b u e => by
  have bp : b ∉ S := fun h => by rw [dl_in h] at e; cases e
  rw [dl_out bp] at e
  have bA : b ≠ x := ne_of_none e n
  rw [dl_out (fun h => (List.mem_cons.mp h).elim bA bp), upd_ne bA]
  exact e
theorem dl_less {S : List Addr} {H : Hp} {x : Addr} {o : HO} : Same (dl (x :: S) H) (dl S (upd H x o)) := fun b u e => by
  have bp : b ∉ x :: S := fun h => by rw [dl_in h] at e; cases e
  rw [dl_out bp] at e
  have bA : b ≠ x := fun h => bp (by rw [h]; exact List.mem_cons_self)
  rw [dl_out (fun h => bp (List.mem_cons_of_mem _ h)), upd_ne bA]
  exact e
theorem dl_drop {H : Hp} {p L : Addr} : Same (dl [p, L] H) (dl [p] H) := fun b u e => by
  have bp : b ∉ [p, L] := fun h => by rw [dl_in h] at e; cases e
  rw [dl_out bp] at e
  rw [dl_out (fun h => bp (by rw [List.mem_singleton.mp h]; exact List.mem_cons_self))]
  exact e
theorem ld_set1 {S : List Addr} {t : TE} {d : Dat} {i : Nat} {D : Ends} {σ : L2.St} {H : Hp} (h : LitD S σ H t d) (q : ∀ H' v, Same H H' → Rp (dl S H') v d → D.nx (σ.set i (some v)) H') : tAsg t (gName i) D σ H := h H _ (Same.refl _) q
theorem g_stepF {i : Nat} {v : V} {σ : L2.St} {H : Hp} {k : L2.St → Hp → Prop} (h : k (σ.set i (some v)) H) : gName i v σ H k := h
theorem err23 {dr : Int} {ps : List Dat} {due : Str} (h : dr = 2 ∨ dr = 3) (a : Err 2 ps due) (b : Err 3 ps due) : Err dr ps due := by
  rcases h with e | e <;> subst e <;> assumption
def oneD : Dat := .lst [.tup [.str "a", .int 1]]
section
variable {P : Program} {w : World} {K : PySem.W.Frag} {mg : Str → Option Value} {base : Heap}
/-! _law_rows: slots 0:reel 1:size 2:rows 3:no_effects 4:effects 5:door 6:bad 7:state 8:kind 9:kinds 10:good 11:large 12:full 13:which -/
abbrev s_law_rows : Stmt := topS 69
theorem sc_law_rows : FnScope ["reel", "size", "rows", "no_effects", "effects", "door", "bad", "state", "kind", "kinds", "good", "large", "full", "which"] ["reel"] (defScope s_law_rows) := ⟨rfl, rfl, rfl, by decide +kernel, rfl, by decide +kernel, by decide +kernel⟩
def sp_law_rows : Sp := fun vs H Q _ => ∃ (p : Addr), vs = [.ref p] ∧ Reel H p ∧ ∀ H' v l, RB p H H' → Reel H' p → Rp (dl [p] H') v (.lst l) → GoodR l → l.length ≤ 40 → Q v H'
theorem ok_law_rows (D : Df K mg "_law_rows" s_law_rows) (T : Tx mg) (G_law_draw : Has P w K mg base 1 "_law_draw" ["reel", "many"] sp_law_draw) (G_law_bad : Has P w K mg base 2 "_law_bad" ["reel", "which"] sp_law_bad) : Has P w K mg base 3 "_law_rows" ["reel"] sp_law_rows := by
  refine has_of D sc_law_rows (fun _ _ _ _ _ _ us hl => match us, hl with | [_], _ => rfl) (fun vs H Q E h => ?_) (fun f cdv A outer s₀ H vs Q E hr h => ?_)
  · obtain ⟨_, rfl, _⟩ := h
    rfl
  · obtain ⟨p, rfl, z0, q⟩ := h
    refine ⟨_, (pss_cons (ps_asg (pe_lc (own := [("which", 13)]) rfl sc_law_rows.nd (pi_range1 (by rfl) T.n_range (pa_cons pe_int pa_nil)) (blkOk_by (N := ["reel", "size", "rows", "no_effects", "effects", "door", "bad", "state", "kind", "kinds", "good", "large", "full", "which"]) (sc := defScope s_law_rows) (by decide +kernel)) (fun _ _ _ _ _ => (pg_name (i := 13) sc_law_rows.nd rfl (by first | exact Or.inl rfl | exact Or.inr rfl))) (fun _ _ _ _ _ => pts_nil) (fun _ _ _ _ _ => (pe_callH G_law_bad (hr.mono (by omega)) (by rfl) (pa_cons (pv 0) (pa_cons (pv 13) pa_nil))))) (pg_unl rfl (pgs_cons (pg_name (i := 6) sc_law_rows.nd rfl (by first | exact Or.inl rfl | exact Or.inr rfl)) (pgs_cons (pg_name (i := 7) sc_law_rows.nd rfl (by first | exact Or.inl rfl | exact Or.inr rfl)) (pgs_cons (pg_name (i := 8) sc_law_rows.nd rfl (by first | exact Or.inl rfl | exact Or.inr rfl)) (pgs_cons (pg_name (i := 9) sc_law_rows.nd rfl (by first | exact Or.inl rfl | exact Or.inr rfl)) pgs_nil))))))
    (pss_cons (ps_set (i := 1) sc_law_rows.nd rfl (by first | exact Or.inl rfl | exact Or.inr rfl) (pe_op op_add pe_int (pe_ix ix_list (pe_lst (pa_cons pe_int (pa_cons (pe_callH G_law_draw (hr.mono (by omega)) (by rfl) (pa_cons (pv 0) (pa_cons pe_int pa_nil))) (pa_cons (pe_op op_sub (pe_op op_pow pe_int pe_int) pe_int) pa_nil)))) (pe_callH G_law_draw (hr.mono (by omega)) (by rfl) (pa_cons (pv 0) (pa_cons pe_int pa_nil))) (fun _ _ => rfl))))
    (pss_cons (ps_par3 (i := 10) (j := 11) (l := 12) (by rfl) sc_law_rows.nd rfl rfl rfl (by decide) (by decide) (by decide) rfl rfl rfl (pa_cons (pe_lst (pa_cons (pe_tup (pa_cons pe_str (pa_cons pe_int pa_nil))) (pa_cons (pe_tup (pa_cons pe_str (pa_cons pe_int pa_nil))) pa_nil))) (pa_cons (pe_lst (pa_cons (pe_tup (pa_cons pe_str (pa_cons (pv 1) pa_nil))) pa_nil)) (pa_cons (pe_lst (pa_cons (pe_tup (pa_cons pe_str (pa_cons pe_int pa_nil))) (pa_cons (pe_tup (pa_cons pe_str (pa_cons pe_int pa_nil))) pa_nil))) pa_nil))) (by rfl))
    (pss_cons (ps_set (i := 2) sc_law_rows.nd rfl (by first | exact Or.inl rfl | exact Or.inr rfl) (pe_lst (pa_cons (pe_tup (pa_cons pe_int (pa_cons (pe_tup (pa_cons (pv 6) (pa_cons (pv 8) pa_nil))) (pa_cons pe_str pa_nil)))) (pa_cons (pe_tup (pa_cons pe_int (pa_cons (pe_tup (pa_cons (pv 11) (pa_cons (pv 8) pa_nil))) (pa_cons pe_str pa_nil)))) (pa_cons (pe_tup (pa_cons pe_int (pa_cons (pe_tup (pa_cons (pv 10) (pa_cons (pv 8) pa_nil))) (pa_cons pe_str pa_nil)))) pa_nil)))))
    (pss_cons (ps_expr (pe_bm PySem.F.plainAttrs_list PySem.F.slot_list_append PySem.F.type_list_append mt_append (pv 2) (pa_cons (pe_tup (pa_cons pe_int (pa_cons (pe_tup (pa_cons (pv 12) (pa_cons pe_str pa_nil))) (pa_cons pe_str pa_nil)))) pa_nil)))
    (pss_cons (ps_set (i := 3) sc_law_rows.nd rfl (by first | exact Or.inl rfl | exact Or.inr rfl) (pe_lst (pa_cons pe_non (pa_cons (pe_lst pa_nil) (pa_cons pe_int (pa_cons pe_str (pa_cons pe_dnewK (pa_cons (pe_lst (pa_cons pe_int pa_nil)) (pa_cons (pe_lst (pa_cons (pe_tup (pa_cons pe_str (pa_cons pe_int pa_nil))) pa_nil)) (pa_cons (pe_lst (pa_cons (pe_tup (pa_cons pe_str (pa_cons pe_int pa_nil))) pa_nil)) (pa_cons (pe_op op_rep (pe_lst (pa_cons pe_non pa_nil)) pe_int) (pa_cons (pe_lst (pa_cons pe_non (pa_cons (pe_tup (pa_cons pe_str (pa_cons pe_int pa_nil))) (pa_cons (pe_tup (pa_cons pe_str (pa_cons pe_int pa_nil))) pa_nil)))) pa_nil))))))))))))
    (pss_cons (ps_set (i := 3) sc_law_rows.nd rfl (by first | exact Or.inl rfl | exact Or.inr rfl) (pe_op op_cat (pv 3) (pe_lst (pa_cons (pe_lst (pa_cons pe_non (pa_cons pe_int (pa_cons pe_non pa_nil)))) (pa_cons (pe_lst (pa_cons pe_non (pa_cons (pe_tup (pa_cons pe_str (pa_cons pe_int pa_nil))) (pa_cons (pe_tup (pa_cons pe_str (pa_cons pe_int pa_nil))) pa_nil)))) (pa_cons (pe_lst (pa_cons pe_non (pa_cons (pe_tup (pa_cons pe_str (pa_cons pe_int pa_nil))) (pa_cons pe_non pa_nil)))) pa_nil))))))
    (pss_cons (ps_set (i := 4) sc_law_rows.nd rfl (by first | exact Or.inl rfl | exact Or.inr rfl) (pe_ix ix_list (pv 3) (pe_callH G_law_draw (hr.mono (by omega)) (by rfl) (pa_cons (pv 0) (pa_cons pe_int pa_nil))) (fun _ _ => rfl)))
    (pss_cons (ps_set (i := 2) sc_law_rows.nd rfl (by first | exact Or.inl rfl | exact Or.inr rfl) (pe_op op_cat (pv 2) (pe_lst (pa_cons (pe_tup (pa_cons pe_int (pa_cons (pe_tup (pa_cons (pv 4) (pa_cons (pv 8) (pa_cons (pv 7) pa_nil)))) (pa_cons pe_str pa_nil)))) (pa_cons (pe_tup (pa_cons pe_int (pa_cons (pe_tup (pa_cons (pv 4) (pa_cons pe_str (pa_cons (pv 7) pa_nil)))) (pa_cons pe_str pa_nil)))) pa_nil)))))
    (pss_cons (ps_set (i := 2) sc_law_rows.nd rfl (by first | exact Or.inl rfl | exact Or.inr rfl) (pe_op op_cat (pv 2) (pe_lst (pa_cons (pe_tup (pa_cons pe_int (pa_cons (pe_tup (pa_cons (pe_lst (pa_cons pe_non pa_nil)) (pa_cons pe_str (pa_cons (pv 7) pa_nil)))) (pa_cons pe_str pa_nil)))) (pa_cons (pe_tup (pa_cons pe_int (pa_cons (pe_tup (pa_cons (pe_lst (pa_cons (pe_tup (pa_cons pe_str (pa_cons pe_int pa_nil))) (pa_cons pe_non pa_nil))) (pa_cons pe_str (pa_cons (pe_tup (pa_cons pe_str (pa_cons pe_int pa_nil))) pa_nil)))) (pa_cons pe_str pa_nil)))) pa_nil)))))
    (pss_cons (ps_set (i := 2) sc_law_rows.nd rfl (by first | exact Or.inl rfl | exact Or.inr rfl) (pe_op op_cat (pv 2) (pe_lst (pa_cons (pe_tup (pa_cons pe_int (pa_cons (pe_tup (pa_cons (pe_op op_rep (pe_lst (pa_cons pe_non pa_nil)) pe_int) (pa_cons pe_str (pa_cons pe_non pa_nil)))) (pa_cons pe_str pa_nil)))) pa_nil))))
    (pss_cons (ps_for PassesOwn.never rfl (pi_tup (pe_tup (pa_cons pe_int (pa_cons pe_int pa_nil)))) (pg_name (i := 5) sc_law_rows.nd rfl (by first | exact Or.inl rfl | exact Or.inr rfl))
      (pss_cons (ps_set (i := 2) sc_law_rows.nd rfl (by first | exact Or.inl rfl | exact Or.inr rfl) (pe_op op_cat (pv 2) (pe_lst (pa_cons (pe_tup (pa_cons (pv 5) (pa_cons (pe_tup (pa_cons (pv 6) (pa_cons (pv 11) pa_nil))) (pa_cons pe_str pa_nil)))) (pa_cons (pe_tup (pa_cons (pv 5) (pa_cons (pe_tup (pa_cons (pv 11) (pa_cons (pv 6) pa_nil))) (pa_cons pe_str pa_nil)))) (pa_cons (pe_tup (pa_cons (pv 5) (pa_cons (pe_tup (pa_cons (pv 10) (pa_cons (pv 6) pa_nil))) (pa_cons pe_str pa_nil)))) pa_nil))))))
    (pss_one (ps_set (i := 2) sc_law_rows.nd rfl (by first | exact Or.inl rfl | exact Or.inr rfl) (pe_op op_cat (pv 2) (pe_lst (pa_cons (pe_tup (pa_cons (pv 5) (pa_cons (pe_tup (pa_cons (pv 10) (pa_cons (pv 11) pa_nil))) (pa_cons pe_str pa_nil)))) (pa_cons (pe_tup (pa_cons (pv 5) (pa_cons (pe_tup (pa_cons (pv 10) (pa_cons (pe_lst (pa_cons (pe_tup (pa_cons pe_str (pa_cons pe_int pa_nil))) pa_nil)) pa_nil))) (pa_cons pe_str pa_nil)))) pa_nil))))))))
    (pss_cons (ps_set (i := 2) sc_law_rows.nd rfl (by first | exact Or.inl rfl | exact Or.inr rfl) (pe_op op_cat (pv 2) (pe_lst (pa_cons (pe_tup (pa_cons pe_int (pa_cons (pe_tup (pa_cons (pv 12) (pa_cons (pv 12) pa_nil))) (pa_cons pe_str pa_nil)))) (pa_cons (pe_tup (pa_cons pe_int (pa_cons (pe_tup (pa_cons (pv 12) (pa_cons (pe_lst (pa_cons (pe_tup (pa_cons pe_str (pa_cons pe_int pa_nil))) pa_nil)) pa_nil))) (pa_cons pe_str pa_nil)))) (pa_cons (pe_tup (pa_cons pe_int (pa_cons (pe_tup (pa_cons (pv 12) (pa_cons (pe_lst (pa_cons (pe_tup (pa_cons pe_str (pa_cons pe_int pa_nil))) pa_nil)) pa_nil))) (pa_cons pe_str pa_nil)))) pa_nil))))))
    (pss_cons (ps_set (i := 2) sc_law_rows.nd rfl (by first | exact Or.inl rfl | exact Or.inr rfl) (pe_op op_cat (pv 2) (pe_lst (pa_cons (pe_tup (pa_cons pe_int (pa_cons (pe_tup (pa_cons (pv 12) (pa_cons (pv 12) pa_nil))) (pa_cons pe_str pa_nil)))) (pa_cons (pe_tup (pa_cons pe_int (pa_cons (pe_tup (pa_cons (pv 12) (pa_cons pe_non (pa_cons (pe_lst (pa_cons pe_str pa_nil)) pa_nil)))) (pa_cons pe_str pa_nil)))) pa_nil)))))
    (pss_cons (ps_set (i := 2) sc_law_rows.nd rfl (by first | exact Or.inl rfl | exact Or.inr rfl) (pe_op op_cat (pv 2) (pe_lst (pa_cons (pe_tup (pa_cons pe_int (pa_cons (pe_tup (pa_cons (pv 10) (pa_cons (pv 10) pa_nil))) (pa_cons pe_str pa_nil)))) (pa_cons (pe_tup (pa_cons pe_int (pa_cons (pe_tup (pa_cons (pv 10) (pa_cons (pe_lst (pa_cons (pe_lst (pa_cons pe_str (pa_cons pe_int pa_nil))) (pa_cons (pe_lst (pa_cons pe_str (pa_cons pe_int pa_nil))) pa_nil))) pa_nil))) (pa_cons pe_str pa_nil)))) (pa_cons (pe_tup (pa_cons pe_int (pa_cons (pe_tup (pa_cons (pe_lst pa_nil) (pa_cons (pe_tup pa_nil) pa_nil))) (pa_cons pe_str pa_nil)))) pa_nil))))))
    (pss_cons (ps_set (i := 2) sc_law_rows.nd rfl (by first | exact Or.inl rfl | exact Or.inr rfl) (pe_op op_cat (pv 2) (pe_lst (pa_cons (pe_tup (pa_cons pe_int (pa_cons (pe_tup (pa_cons (pv 6) (pa_cons (pv 7) (pa_cons (pv 9) pa_nil)))) (pa_cons pe_str pa_nil)))) (pa_cons (pe_tup (pa_cons pe_int (pa_cons (pe_tup (pa_cons (pv 11) (pa_cons (pv 7) (pa_cons (pv 9) pa_nil)))) (pa_cons pe_str pa_nil)))) pa_nil)))))
    (pss_cons (ps_set (i := 2) sc_law_rows.nd rfl (by first | exact Or.inl rfl | exact Or.inr rfl) (pe_op op_cat (pv 2) (pe_lst (pa_cons (pe_tup (pa_cons pe_int (pa_cons (pe_tup (pa_cons (pv 10) (pa_cons (pv 7) (pa_cons (pv 9) pa_nil)))) (pa_cons pe_str pa_nil)))) (pa_cons (pe_tup (pa_cons pe_int (pa_cons (pe_tup (pa_cons (pv 10) (pa_cons pe_non (pa_cons (pv 9) pa_nil)))) (pa_cons pe_str pa_nil)))) pa_nil)))))
    (pss_one (ps_ret (pe_op op_cat (pv 2) (pe_lst (pa_cons (pe_tup (pa_cons pe_int (pa_cons (pe_tup (pa_cons (pe_lst pa_nil) (pa_cons (pe_tup (pa_cons pe_str (pa_cons pe_int pa_nil))) (pa_cons (pe_lst (pa_cons pe_str pa_nil)) pa_nil)))) (pa_cons pe_str pa_nil)))) pa_nil)))))))))))))))))))))), ?_⟩
    refine ⟨_, rfl, by decide, by decide, fun L nL => ?_⟩
    have Lp := z0.ne nL
    have sL := same_upd (o := .lst []) nL
    refine lc_range (lo := 0) (n := 4) (fun i H' => RB p H H' ∧ Reel H' p ∧ Off H' p L ∧ ∃ ds xs, H' L = some (.lst xs) ∧ Paired (Rp (dl [p, L] H')) xs ds ∧ ds.length = i ∧ ∀ (j : Nat) (d : Dat), ds[j]? = some d → d ∈ badM (j : Int))
      ⟨RB.of sL, z0.same sL, (z0.off nL).upd Lp, [], [], upd_same, .nil, rfl, fun j d h => by simp at h⟩ (fun i H2 hi hP => ?_) (fun H2 hP => ?_)
    · obtain ⟨b2, z2, o2, ds, xs, hL, hp, ld, hd⟩ := hP
      have old : Old [p, L] H2 := fun b hb => by
        rcases List.mem_cons.mp hb with e | e
        · rw [e]
          exact z2.at
        · rw [List.mem_singleton.mp e]
          exact ⟨_, hL⟩
      have lx : xs.length = ds.length := Paired.len hp
      have hi : i < 4 := hi
      refine ⟨rfl, yesT ⟨_, rfl, _, rfl, p, _, rfl, z2, by omega, by omega, fun H3 v d b3 z3 md rd => ?_⟩⟩
      have hL3 := b3.but _ _ Lp hL
      have o3 := b3.off _ _ hL o2
      have rd := rd.same (newH_dl old)
      refine ⟨_, hL3, small (by omega), (b2.trans b3).grow nL o3, z3.upd o3, o3.upd Lp, ds ++ [d], xs ++ [v], upd_same, ?_, ?_, ?_⟩
      · have hp3 := Paired.imp (fun _ _ h => Rp.same ((dlS_RB (S := [p, L]) (by simp) b3).trans (dl_upd (L := L) (o := .lst (xs ++ [v])) (by simp))) h) hp
        exact Paired.app hp3 (.cons (rd.same (dl_upd (by simp))) .nil)
      · rw [List.length_append, ld]
        rfl
      · intro j e he
        by_cases c : j < ds.length
        · rw [List.getElem?_append_left c] at he
          exact hd j e he
        · have hj := (List.getElem?_eq_some_iff.mp he).1
          rw [List.length_append] at hj
          have hj : j < ds.length + 1 := hj
          have ej : j = ds.length := by omega
          rw [ej, List.getElem?_concat_length] at he
          cases he
          rw [ej, ld]
          rw [show ((i : Nat) : Int) = 0 + (i : Int) by omega]
          exact md
    · obtain ⟨b2, z2, o2, ds, xs, hL, hp, ld, hd⟩ := hP
      obtain ⟨v0, v1, v2, v3, dB, dW, dK, dN, rfl, rfl, rB, rW, rK, rN⟩ := four_ofD hp ld
      have mB := hd 0 _ rfl
      have mW := hd 1 _ rfl
      have mK := hd 2 _ rfl
      have mN := hd 3 _ rfl
      have old : Old [p, L] H2 := fun b hb => by
        rcases List.mem_cons.mp hb with e | e
        · rw [e]
          exact z2.at
        · rw [List.mem_singleton.mp e]
          exact ⟨_, hL⟩
      have B := b2
      have z := z2
      refine ⟨L, _, rfl, .of hL, rfl, _, _, rfl, _, _, rfl, _, _, rfl, _, _, rfl, rfl, ?_⟩
      clear hd hp ld o2 z2 b2 hL nL sL
      obtain ⟨qB, fB, nB⟩ := bad0_all dB mB
      obtain ⟨sW, fW, nW⟩ := bad1_all dW mW
      obtain ⟨kK, fK, nK⟩ := bad2_all dK mK
      obtain ⟨kN, fN, nN⟩ := bad3_all dN mN
      have fB := fitsB_ok fB
      have fW := fit2B_ok fW
      have fK := fitB_ok fK
      have fN := fitKB_ok fN
      have nB := nis_of nB
      have nW := nis_of nW
      have nK := nis_of nK
      have nN := nis_of nN
      clear mB mW mK mN
      refine ⟨_, rfl, p, 99, rfl, z, by decide, by decide, fun H7 r b7 z7 r0 r1 => ⟨_, _, rfl, rfl, ⟨by decide, by decide, by decide⟩, _, _, rfl, rfl, (by show 3 ≤ sizeLine; decide), fun lA nl => ?_⟩⟩
      have rB := rB.same (dlS_RB (by simp) b7)
      have rW := rW.same (dlS_RB (by simp) b7)
      have rK := rK.same (dlS_RB (by simp) b7)
      have rN := rN.same (dlS_RB (by simp) b7)
      have old := old.rb b7 z7
      have z := z7
      have B := B.trans b7
      have sl := same_upd (o := .lst [.int 0, .int r, .int ((10 : Int) ^ ((30 : Int).toNat) - 401)]) nl
      have lp : lA ≠ p := z7.ne nl
      have rB := rB.same (dl_mono sl)
      have rW := rW.same (dl_mono sl)
      have rK := rK.same (dl_mono sl)
      have rN := rN.same (dl_mono sl)
      have z := z.same sl
      have old := old.same sl
      have B := B.trans (RB.of sl)
      refine ⟨_, rfl, p, 3, rfl, z, by decide, by decide, fun H8 r3 b8 z8 r30 r31 => ?_⟩
      have h8 : H8 lA = some (.lst [.int 0, .int r, .int ((10 : Int) ^ ((30 : Int).toNat) - 401)]) := b8.but _ _ lp upd_same
      have rB := rB.same (dlS_RB (by simp) b8)
      have rW := rW.same (dlS_RB (by simp) b8)
      have rK := rK.same (dlS_RB (by simp) b8)
      have rN := rN.same (dlS_RB (by simp) b8)
      have old := old.rb b8 z8
      have z := z8
      have B := B.trans b8
      obtain ⟨n, en, n0, n1⟩ : ∃ n : Int, atI [V.int 0, .int r, .int ((10 : Int) ^ ((30 : Int).toNat) - 401)] r3 = some (.int n) ∧ 0 ≤ n ∧ n ≤ 999999999999999999999999999599 := by
        rcases (show r3 = 0 ∨ r3 = 1 ∨ r3 = 2 by omega) with rfl | rfl | rfl
        · exact ⟨0, rfl, by omega, by omega⟩
        · exact ⟨r, rfl, by omega, by omega⟩
        · exact ⟨_, rfl, by rw [q30]; decide, by rw [q30]; decide⟩
      refine ⟨lA, _, r3, .int n, rfl, rfl, .of h8, en, _, _, rfl, rfl, ?_⟩
      obtain ⟨f, ef⟩ : ∃ f : Int, f = 401 + n := ⟨_, rfl⟩
      refine gen_set (n := f) (congrArg V.int ef.symm) ?_
      have fb : 401 ≤ f ∧ f ≤ 1000000000000000000000000000000 := by omega
      clear en h8 b8 z8 b7 z7 sl lp nl ef r30 r31 r0 r1 n0 n1
      refine set_go (σ' := [some (.ref p), some (.int f), none, none, none, none, some v0, some v1, some v2, some v3, none, none, none, none]) rfl ?_
      refine lds_par3 (S := [p, L]) (d1 := gD) (d2 := lD f) (d3 := fD) (lds_cons (ld_lst old (lds_cons (ld_tup old (lds_cons ld_str (lds_cons ld_int lds_nil)) (Nat.le_of_ble_eq_true rfl)) (lds_cons (ld_tup old (lds_cons ld_str (lds_cons ld_int lds_nil)) (Nat.le_of_ble_eq_true rfl)) lds_nil)) (Nat.le_of_ble_eq_true rfl)) (lds_cons (ld_lst old (lds_cons (ld_tup old (lds_cons ld_str (lds_cons (ld_var rfl (.int _)) lds_nil)) (Nat.le_of_ble_eq_true rfl)) lds_nil) (Nat.le_of_ble_eq_true rfl)) (lds_cons (ld_lst old (lds_cons (ld_tup old (lds_cons ld_str (lds_cons ld_int lds_nil)) (Nat.le_of_ble_eq_true rfl)) (lds_cons (ld_tup old (lds_cons ld_str (lds_cons ld_int lds_nil)) (Nat.le_of_ble_eq_true rfl)) lds_nil)) (Nat.le_of_ble_eq_true rfl)) lds_nil))) (fun H9 gv lv fv s9 rG rL rF => ?_)
      have rB := rB.same (dl_mono s9)
      have rW := rW.same (dl_mono s9)
      have rK := rK.same (dl_mono s9)
      have rN := rN.same (dl_mono s9)
      have z := z.same s9
      have old := old.same s9
      have B := B.trans (RB.of s9)
      refine set_go (σ' := [some (.ref p), some (.int f), none, none, none, none, some v0, some v1, some v2, some v3, some gv, some lv, some fv, none]) rfl ?_
      clear s9
      obtain ⟨dL, eL⟩ : ∃ d : Dat, lD f = d := ⟨_, rfl⟩
      have fL : (lD f).fits := fitsB_ok rfl
      have qL : (lD f).seq = true := by
        have e1 : (Dat.tup [.str "a", .int f]).run = true := run_kc (by decide +kernel) (by omega) (by omega)
        show (decide (((1 : Nat) : Int) ≤ 400) && (([Dat.tup [.str "a", .int f]].all Dat.run) && true)) = true
        rw [List.all_cons, e1]
        decide
      have lL : 400 < lenR (lD f).runs := by
        show 400 < lenR [(("a" : Str), f)]
        rw [lenR_cons, lenR_nil]
        show 400 < f + 0
        omega
      have nL : Nis 500 3 (lD f).py := by
        have h1 := nis_tupD (w := 201) (n := 0) (l := [.str "a", .int f]) fun x hx => by
          rcases List.mem_cons.mp hx with e | hx
          · rw [e]
            exact nis_of (by decide +kernel)
          · rw [List.mem_singleton.mp hx]
            exact nis_int (by omega)
        have h2 := nis_lst (w := 404) (n := 1) (l := [.tup [.str "a", .int f]]) fun x hx => by
          rw [List.mem_singleton.mp hx]
          exact h1.mono (by show 202 * 2 ≤ _; decide) (by decide)
        exact h2.mono (by show 405 * 1 ≤ _; decide) (by decide)
      rw [eL] at rL fL qL lL nL
      clear eL fb
      have fG : gD.fits := fitsB_ok (by decide +kernel)
      have sG : gD.shortS := short_of (by decide +kernel)
      have nG : Nis 500 3 gD.py := nis_of (by decide +kernel)
      have fF : fD.fits := fitsB_ok (by decide +kernel)
      have sF : fD.shortS := short_of (by decide +kernel)
      have nF : Nis 500 3 fD.py := nis_of (by decide +kernel)
      have ksA : KsOk ["a"] := ⟨by decide, by decide, by decide +kernel, fun i x y hx hy => by simp at hy⟩
      refine ld_lstN (S := [p, L]) (ds := [.tup [.int 0, .tup [dB, dK], .str "sequence"], .tup [.int 0, .tup [dL, dK], .str "long"], .tup [.int 0, .tup [gD, dK], .str "kind"]]) old (lds_cons (ld_tup old (lds_cons ld_int (lds_cons (ld_tup old (lds_cons (ld_var rfl rB) (lds_cons (ld_var rfl rK) lds_nil)) (Nat.le_of_ble_eq_true rfl)) (lds_cons ld_str lds_nil))) (Nat.le_of_ble_eq_true rfl)) (lds_cons (ld_tup old (lds_cons ld_int (lds_cons (ld_tup old (lds_cons (ld_var rfl rL) (lds_cons (ld_var rfl rK) lds_nil)) (Nat.le_of_ble_eq_true rfl)) (lds_cons ld_str lds_nil))) (Nat.le_of_ble_eq_true rfl)) (lds_cons (ld_tup old (lds_cons ld_int (lds_cons (ld_tup old (lds_cons (ld_var rfl rG) (lds_cons (ld_var rfl rK) lds_nil)) (Nat.le_of_ble_eq_true rfl)) (lds_cons ld_str lds_nil))) (Nat.le_of_ble_eq_true rfl)) lds_nil))) (Nat.le_of_ble_eq_true rfl) (fun Hr rA xs sr nA nS pR => ?_)
      have gg : GoodR [.tup [.int 0, .tup [dB, dK], .str "sequence"], .tup [.int 0, .tup [dL, dK], .str "long"], .tup [.int 0, .tup [gD, dK], .str "kind"]] := goodR_cons ⟨⟨_, _, _, rfl, .d0q fB fK qB⟩, nis_row (by decide) (Nat.le_of_ble_eq_true rfl) (nis_of (by decide +kernel)) (consN (nB) (consN (nK) (nilN)))⟩ (goodR_cons ⟨⟨_, _, _, rfl, .d0l fL fK qL lL⟩, nis_row (by decide) (Nat.le_of_ble_eq_true rfl) (nis_of (by decide +kernel)) (consN (nL) (consN (nK) (nilN)))⟩ (goodR_cons ⟨⟨_, _, _, rfl, .d0k fG fK sG kK⟩, nis_row (by decide) (Nat.le_of_ble_eq_true rfl) (nis_of (by decide +kernel)) (consN (nG) (consN (nK) (nilN)))⟩ (goodR_nil)))
      have ll : ([.tup [.int 0, .tup [dB, dK], .str "sequence"], .tup [.int 0, .tup [dL, dK], .str "long"], .tup [.int 0, .tup [gD, dK], .str "kind"]] : List Dat).length ≤ 3 := Nat.le_of_ble_eq_true rfl
      generalize ([.tup [.int 0, .tup [dB, dK], .str "sequence"], .tup [.int 0, .tup [dL, dK], .str "long"], .tup [.int 0, .tup [gD, dK], .str "kind"]] : List Dat) = l at pR gg ll
      refine set_go (σ' := [some (.ref p), some (.int f), some (.ref rA), none, none, none, some v0, some v1, some v2, some v3, some gv, some lv, some fv, none]) rfl ?_
      have rB := rB.same (dl_mono sr)
      have rW := rW.same (dl_mono sr)
      have rK := rK.same (dl_mono sr)
      have rN := rN.same (dl_mono sr)
      have rG := rG.same (dl_mono sr)
      have rL := rL.same (dl_mono sr)
      have rF := rF.same (dl_mono sr)
      have z := z.same sr
      have old := old.same sr
      have B := B.trans (RB.of sr)
      clear sr
      have uA := same_upd (o := .lst xs) nA
      have oldA : Old (rA :: [p, L]) (upd Hr rA (.lst xs)) := (old.same uA).cons ⟨_, upd_same⟩
      have rB := rB.same (dl_more (o := .lst xs) nA)
      have rW := rW.same (dl_more (o := .lst xs) nA)
      have rK := rK.same (dl_more (o := .lst xs) nA)
      have rN := rN.same (dl_more (o := .lst xs) nA)
      have rG := rG.same (dl_more (o := .lst xs) nA)
      have rL := rL.same (dl_more (o := .lst xs) nA)
      have rF := rF.same (dl_more (o := .lst xs) nA)
      have pR : Paired (Rp (dl (rA :: [p, L]) (upd Hr rA (.lst xs)))) xs l := Paired.imp (fun _ _ h => h.same (dl_more (o := .lst xs) nA)) pR
      have lxs : xs.length = l.length := Paired.len pR
      refine ⟨_, rfl, .inl ⟨rfl, _, SqL.of upd_same⟩, ?_⟩
      refine lds_go (S := rA :: [p, L]) (ds := [.tup [.int 0, .tup [fD, .str "c"], .str "none"]]) (lds_cons (ld_tup oldA (lds_cons ld_int (lds_cons (ld_tup oldA (lds_cons (ld_var rfl rF) (lds_cons ld_str lds_nil)) (Nat.le_of_ble_eq_true rfl)) (lds_cons ld_str lds_nil))) (Nat.le_of_ble_eq_true rfl)) lds_nil) (fun Hv tvs sv rTs => ?_)
      obtain ⟨tv, rfl, rT⟩ : ∃ tv, tvs = [tv] ∧ Rp (dl (rA :: [p, L]) Hv) tv (.tup [.int 0, .tup [fD, .str "c"], .str "none"]) := by
        cases rTs with
        | cons h t =>
          cases t
          exact ⟨_, rfl, h⟩
      refine ⟨rA, _, _, rfl, rfl, sv _ _ upd_same, small (by omega), ?_⟩
      have pR := rpsD sv pR
      have rB := rB.same (dl_mono sv)
      have rW := rW.same (dl_mono sv)
      have rK := rK.same (dl_mono sv)
      have rN := rN.same (dl_mono sv)
      have rG := rG.same (dl_mono sv)
      have rL := rL.same (dl_mono sv)
      have rF := rF.same (dl_mono sv)
      have rR : Rp (dl [p, L] (upd Hv rA (.lst (xs ++ [tv])))) (.ref rA) (.lst (l ++ [.tup [.int 0, .tup [fD, .str "c"], .str "none"]])) := .lst (dl_put nS) (Paired.app (Paired.imp (fun _ _ h => h.same dl_less) pR) (.cons (rT.same dl_less) .nil))
      have gg : GoodR (l ++ [.tup [.int 0, .tup [fD, .str "c"], .str "none"]]) := goodR_app gg (goodR_cons ⟨⟨_, _, _, rfl, .d0o sF (kind_ok (by decide +kernel))⟩, nis_row (by decide) (Nat.le_of_ble_eq_true rfl) (nis_of (by decide +kernel)) (consN (nF) (consN (nis_of (by decide +kernel)) (nilN)))⟩ goodR_nil)
      have ll : (l ++ ([.tup [.int 0, .tup [fD, .str "c"], .str "none"]] : List Dat)).length ≤ 4 := by rw [List.length_append]; exact Nat.add_le_add_right ll _
      generalize l ++ ([.tup [.int 0, .tup [fD, .str "c"], .str "none"]] : List Dat) = l at rR gg ll
      have rB := rB.same (dl_less (o := .lst (xs ++ [tv])))
      have rW := rW.same (dl_less (o := .lst (xs ++ [tv])))
      have rK := rK.same (dl_less (o := .lst (xs ++ [tv])))
      have rN := rN.same (dl_less (o := .lst (xs ++ [tv])))
      have rG := rG.same (dl_less (o := .lst (xs ++ [tv])))
      have rL := rL.same (dl_less (o := .lst (xs ++ [tv])))
      have rF := rF.same (dl_less (o := .lst (xs ++ [tv])))
      have oA : Off Hv p rA := by
        obtain ⟨g, c, n, s, h, h1, h2, h3⟩ := z.off nA
        exact ⟨g, c, n, s, sv _ _ (uA _ _ h), h1, h2, h3⟩
      have nAH : H rA = none := B.free z nA
      have B : RB p H (upd Hv rA (.lst (xs ++ [tv]))) := (B.trans (RB.of (uA.trans sv))).grow nAH oA
      have old : Old [p, L] (upd Hv rA (.lst (xs ++ [tv]))) := ((old.same uA).same sv).upd
      have z : Reel (upd Hv rA (.lst (xs ++ [tv]))) p := ((z.same uA).same sv).upd oA
      obtain ⟨HE, eH⟩ : ∃ HE, upd Hv rA (.lst (xs ++ [tv])) = HE := ⟨_, rfl⟩
      rw [eH] at rR rB rW rK rN rG rL rF z B old ⊢
      clear eH uA oldA pR rT sv nA nS lxs oA nAH
      obtain ⟨vr, evr⟩ : ∃ vr : V, V.ref rA = vr := ⟨_, rfl⟩
      rw [evr] at rR ⊢
      clear evr
      refine ld_set (S := [p, L]) (d := .lst noE1) (ld_lst old (lds_cons ld_non (lds_cons (ld_lst old lds_nil (Nat.le_of_ble_eq_true rfl)) (lds_cons ld_int (lds_cons ld_str (lds_cons (ld_dic old) (lds_cons (ld_lst old (lds_cons ld_int lds_nil) (Nat.le_of_ble_eq_true rfl)) (lds_cons (ld_lst old (lds_cons (ld_tup old (lds_cons ld_str (lds_cons ld_int lds_nil)) (Nat.le_of_ble_eq_true rfl)) lds_nil) (Nat.le_of_ble_eq_true rfl)) (lds_cons (ld_lst old (lds_cons (ld_tup old (lds_cons ld_str (lds_cons ld_int lds_nil)) (Nat.le_of_ble_eq_true rfl)) lds_nil) (Nat.le_of_ble_eq_true rfl)) (lds_cons (ld_nons old (by decide) (by decide)) (lds_cons (ld_lst old (lds_cons ld_non (lds_cons (ld_tup old (lds_cons ld_str (lds_cons ld_int lds_nil)) (Nat.le_of_ble_eq_true rfl)) (lds_cons (ld_tup old (lds_cons ld_str (lds_cons ld_int lds_nil)) (Nat.le_of_ble_eq_true rfl)) lds_nil))) (Nat.le_of_ble_eq_true rfl)) lds_nil)))))))))) (Nat.le_of_ble_eq_true rfl)) (fun HB nv sB rNE => ?_)
      refine set_go (σ' := [some (.ref p), some (.int f), some vr, some nv, none, none, some v0, some v1, some v2, some v3, some gv, some lv, some fv, none]) rfl ?_
      have rB := rB.same (dl_mono sB)
      have rW := rW.same (dl_mono sB)
      have rK := rK.same (dl_mono sB)
      have rN := rN.same (dl_mono sB)
      have rG := rG.same (dl_mono sB)
      have rL := rL.same (dl_mono sB)
      have rF := rF.same (dl_mono sB)
      have rR := rR.same (dl_mono sB)
      have z := z.same sB
      have old := old.same sB
      have B := B.trans (RB.of sB)
      clear sB
      refine ld_set (S := [p, L]) (d := .lst noE) (ld_cat old (ld_var rfl rNE) (ld_lst old (lds_cons (ld_lst old (lds_cons ld_non (lds_cons ld_int (lds_cons ld_non lds_nil))) (Nat.le_of_ble_eq_true rfl)) (lds_cons (ld_lst old (lds_cons ld_non (lds_cons (ld_tup old (lds_cons ld_str (lds_cons ld_int lds_nil)) (Nat.le_of_ble_eq_true rfl)) (lds_cons (ld_tup old (lds_cons ld_str (lds_cons ld_int lds_nil)) (Nat.le_of_ble_eq_true rfl)) lds_nil))) (Nat.le_of_ble_eq_true rfl)) (lds_cons (ld_lst old (lds_cons ld_non (lds_cons (ld_tup old (lds_cons ld_str (lds_cons ld_int lds_nil)) (Nat.le_of_ble_eq_true rfl)) (lds_cons ld_non lds_nil))) (Nat.le_of_ble_eq_true rfl)) lds_nil))) (Nat.le_of_ble_eq_true rfl)) (Nat.le_of_ble_eq_true rfl)) (fun HC nv sC rNE => ?_)
      refine set_go (σ' := [some (.ref p), some (.int f), some vr, some nv, none, none, some v0, some v1, some v2, some v3, some gv, some lv, some fv, none]) rfl ?_
      have rB := rB.same (dl_mono sC)
      have rW := rW.same (dl_mono sC)
      have rK := rK.same (dl_mono sC)
      have rN := rN.same (dl_mono sC)
      have rG := rG.same (dl_mono sC)
      have rL := rL.same (dl_mono sC)
      have rF := rF.same (dl_mono sC)
      have rR := rR.same (dl_mono sC)
      have z := z.same sC
      have old := old.same sC
      have B := B.trans (RB.of sC)
      clear sC
      refine ld_ix (S := [p, L]) (ds := noE) (ld_var rfl rNE) (fun HD lv1 sl rl => ⟨_, rfl, p, 13, rfl, z.same sl, by decide, by decide, fun Ht r br zr r0 r8 => ?_⟩)
      obtain ⟨la, lxs, ev, rfl, hl, atl, rE⟩ := rp_atD (rl.same (dlS_RB (by simp) br)) r0 (by show r.toNat < 13; omega)
      refine ⟨la, lxs, r, ev, rfl, rfl, .of hl, atl, ?_⟩
      refine set_go (σ' := [some (.ref p), some (.int f), some vr, some nv, some ev, none, some v0, some v1, some v2, some v3, some gv, some lv, some fv, none]) rfl ?_
      have rB := rB.same (dl_mono sl)
      have rW := rW.same (dl_mono sl)
      have rK := rK.same (dl_mono sl)
      have rN := rN.same (dl_mono sl)
      have rG := rG.same (dl_mono sl)
      have rL := rL.same (dl_mono sl)
      have rF := rF.same (dl_mono sl)
      have rR := rR.same (dl_mono sl)
      have z := z.same sl
      have old := old.same sl
      have B := B.trans (RB.of sl)
      have rB := rB.same (dlS_RB (by simp) br)
      have rW := rW.same (dlS_RB (by simp) br)
      have rK := rK.same (dlS_RB (by simp) br)
      have rN := rN.same (dlS_RB (by simp) br)
      have rG := rG.same (dlS_RB (by simp) br)
      have rL := rL.same (dlS_RB (by simp) br)
      have rF := rF.same (dlS_RB (by simp) br)
      have rR := rR.same (dlS_RB (by simp) br)
      have old := old.rb br zr
      have z := zr
      have B := B.trans br
      obtain ⟨dE, eE, mE⟩ : ∃ d, d = noE[r.toNat]'(by show r.toNat < 13; omega) ∧ d ∈ noE := ⟨_, rfl, List.getElem_mem _⟩
      have rE : Rp (dl [p, L] Ht) ev dE := by rw [eE]; exact rE
      obtain ⟨hE, fE, nE⟩ := noE_all dE mE
      have fE := fitsB_ok fE
      have nE := nis_of nE
      clear eE mE zr br rl hl atl sl rNE
      have kA : (Dat.str "a").kind = true := by decide +kernel
      have fA : (Dat.str "a").fit := fitB_ok (by decide +kernel)
      refine ld_set (S := [p, L]) (d := .lst (l ++ [.tup [.int 1, .tup [dE, dK, dW], .str "kind"], .tup [.int 1, .tup [dE, .str "a", dW], .str "effects"]])) (ld_cat old (ld_var rfl rR) (ld_lst old (lds_cons (ld_tup old (lds_cons ld_int (lds_cons (ld_tup old (lds_cons (ld_var rfl rE) (lds_cons (ld_var rfl rK) (lds_cons (ld_var rfl rW) lds_nil))) (Nat.le_of_ble_eq_true rfl)) (lds_cons ld_str lds_nil))) (Nat.le_of_ble_eq_true rfl)) (lds_cons (ld_tup old (lds_cons ld_int (lds_cons (ld_tup old (lds_cons (ld_var rfl rE) (lds_cons ld_str (lds_cons (ld_var rfl rW) lds_nil))) (Nat.le_of_ble_eq_true rfl)) (lds_cons ld_str lds_nil))) (Nat.le_of_ble_eq_true rfl)) lds_nil)) (Nat.le_of_ble_eq_true rfl)) (by show l.length + 2 ≤ 1000; omega)) (fun Hr vr sr rR => ?_)
      have gg : GoodR (l ++ [.tup [.int 1, .tup [dE, dK, dW], .str "kind"], .tup [.int 1, .tup [dE, .str "a", dW], .str "effects"]]) := goodR_app gg (goodR_cons ⟨⟨_, _, _, rfl, .d1k fE fK fW kK⟩, nis_row (by decide) (Nat.le_of_ble_eq_true rfl) (nis_of (by decide +kernel)) (consN (nE) (consN (nK) (consN (nW) (nilN))))⟩ (goodR_cons ⟨⟨_, _, _, rfl, .d1f fE fA fW kA hE⟩, nis_row (by decide) (Nat.le_of_ble_eq_true rfl) (nis_of (by decide +kernel)) (consN (nE) (consN (nis_of (by decide +kernel)) (consN (nW) (nilN))))⟩ (goodR_nil)))
      have ll : (l ++ ([.tup [.int 1, .tup [dE, dK, dW], .str "kind"], .tup [.int 1, .tup [dE, .str "a", dW], .str "effects"]] : List Dat)).length ≤ 4 + 2 := by rw [List.length_append]; exact Nat.add_le_add_right ll _
      generalize l ++ ([.tup [.int 1, .tup [dE, dK, dW], .str "kind"], .tup [.int 1, .tup [dE, .str "a", dW], .str "effects"]] : List Dat) = l at rR gg ll
      refine set_go (σ' := [some (.ref p), some (.int f), some vr, some nv, some ev, none, some v0, some v1, some v2, some v3, some gv, some lv, some fv, none]) rfl ?_
      have rB := rB.same (dl_mono sr)
      have rW := rW.same (dl_mono sr)
      have rK := rK.same (dl_mono sr)
      have rN := rN.same (dl_mono sr)
      have rG := rG.same (dl_mono sr)
      have rL := rL.same (dl_mono sr)
      have rF := rF.same (dl_mono sr)
      have rE := rE.same (dl_mono sr)
      have z := z.same sr
      have old := old.same sr
      have B := B.trans (RB.of sr)
      clear sr
      have stW : dW.stof "a" = false := by
        unfold Dat.stof
        rw [sW]
        rfl
      refine ld_set (S := [p, L]) (d := .lst (l ++ [.tup [.int 1, .tup [.lst [.non], .str "a", dW], .str "state"], .tup [.int 1, .tup [.lst [.tup [.str "b", .int 1], .non], .str "a", .tup [.str "b", .int 1]], .str "state"]])) (ld_cat old (ld_var rfl rR) (ld_lst old (lds_cons (ld_tup old (lds_cons ld_int (lds_cons (ld_tup old (lds_cons (ld_lst old (lds_cons ld_non lds_nil) (Nat.le_of_ble_eq_true rfl)) (lds_cons ld_str (lds_cons (ld_var rfl rW) lds_nil))) (Nat.le_of_ble_eq_true rfl)) (lds_cons ld_str lds_nil))) (Nat.le_of_ble_eq_true rfl)) (lds_cons (ld_tup old (lds_cons ld_int (lds_cons (ld_tup old (lds_cons (ld_lst old (lds_cons (ld_tup old (lds_cons ld_str (lds_cons ld_int lds_nil)) (Nat.le_of_ble_eq_true rfl)) (lds_cons ld_non lds_nil)) (Nat.le_of_ble_eq_true rfl)) (lds_cons ld_str (lds_cons (ld_tup old (lds_cons ld_str (lds_cons ld_int lds_nil)) (Nat.le_of_ble_eq_true rfl)) lds_nil))) (Nat.le_of_ble_eq_true rfl)) (lds_cons ld_str lds_nil))) (Nat.le_of_ble_eq_true rfl)) lds_nil)) (Nat.le_of_ble_eq_true rfl)) (by show l.length + 2 ≤ 1000; omega)) (fun Hr vr sr rR => ?_)
      have gg : GoodR (l ++ [.tup [.int 1, .tup [.lst [.non], .str "a", dW], .str "state"], .tup [.int 1, .tup [.lst [.tup [.str "b", .int 1], .non], .str "a", .tup [.str "b", .int 1]], .str "state"]]) := goodR_app gg (goodR_cons ⟨⟨_, _, _, rfl, .d1t (fitsB_ok (by decide +kernel)) fA fW kA (by decide +kernel) stW⟩, nis_row (by decide) (Nat.le_of_ble_eq_true rfl) (nis_of (by decide +kernel)) (consN (nis_of (by decide +kernel)) (consN (nis_of (by decide +kernel)) (consN (nW) (nilN))))⟩ (goodR_cons ⟨⟨_, _, _, rfl, .d1t (fitsB_ok (by decide +kernel)) fA (fit2B_ok (by decide +kernel)) kA (by decide +kernel) (by decide +kernel)⟩, nis_row (by decide) (Nat.le_of_ble_eq_true rfl) (nis_of (by decide +kernel)) (consN (nis_of (by decide +kernel)) (consN (nis_of (by decide +kernel)) (consN (nis_of (by decide +kernel)) (nilN))))⟩ (goodR_nil)))
      have ll : (l ++ ([.tup [.int 1, .tup [.lst [.non], .str "a", dW], .str "state"], .tup [.int 1, .tup [.lst [.tup [.str "b", .int 1], .non], .str "a", .tup [.str "b", .int 1]], .str "state"]] : List Dat)).length ≤ 6 + 2 := by rw [List.length_append]; exact Nat.add_le_add_right ll _
      generalize l ++ ([.tup [.int 1, .tup [.lst [.non], .str "a", dW], .str "state"], .tup [.int 1, .tup [.lst [.tup [.str "b", .int 1], .non], .str "a", .tup [.str "b", .int 1]], .str "state"]] : List Dat) = l at rR gg ll
      refine set_go (σ' := [some (.ref p), some (.int f), some vr, some nv, some ev, none, some v0, some v1, some v2, some v3, some gv, some lv, some fv, none]) rfl ?_
      have rB := rB.same (dl_mono sr)
      have rW := rW.same (dl_mono sr)
      have rK := rK.same (dl_mono sr)
      have rN := rN.same (dl_mono sr)
      have rG := rG.same (dl_mono sr)
      have rL := rL.same (dl_mono sr)
      have rF := rF.same (dl_mono sr)
      have rE := rE.same (dl_mono sr)
      have z := z.same sr
      have old := old.same sr
      have B := B.trans (RB.of sr)
      clear sr
      refine ld_set (S := [p, L]) (d := .lst (l ++ [.tup [.int 1, .tup [noEff, .str "a", .non], .str "none"]])) (ld_cat old (ld_var rfl rR) (ld_lst old (lds_cons (ld_tup old (lds_cons ld_int (lds_cons (ld_tup old (lds_cons (ld_nons old (by decide) (by decide)) (lds_cons ld_str (lds_cons ld_non lds_nil))) (Nat.le_of_ble_eq_true rfl)) (lds_cons ld_str lds_nil))) (Nat.le_of_ble_eq_true rfl)) lds_nil) (Nat.le_of_ble_eq_true rfl)) (by show l.length + 1 ≤ 1000; omega)) (fun Hr vr sr rR => ?_)
      have gg : GoodR (l ++ [.tup [.int 1, .tup [noEff, .str "a", .non], .str "none"]]) := goodR_app gg (goodR_cons ⟨⟨_, _, _, rfl, .d1o⟩, nis_row (by decide) (Nat.le_of_ble_eq_true rfl) (nis_of (by decide +kernel)) (consN (nis_of (by decide +kernel)) (consN (nis_of (by decide +kernel)) (consN (nis_of (by decide +kernel)) (nilN))))⟩ (goodR_nil))
      have ll : (l ++ ([.tup [.int 1, .tup [noEff, .str "a", .non], .str "none"]] : List Dat)).length ≤ 8 + 1 := by rw [List.length_append]; exact Nat.add_le_add_right ll _
      generalize l ++ ([.tup [.int 1, .tup [noEff, .str "a", .non], .str "none"]] : List Dat) = l at rR gg ll
      refine set_go (σ' := [some (.ref p), some (.int f), some vr, some nv, some ev, none, some v0, some v1, some v2, some v3, some gv, some lv, some fv, none]) rfl ?_
      have rB := rB.same (dl_mono sr)
      have rW := rW.same (dl_mono sr)
      have rK := rK.same (dl_mono sr)
      have rN := rN.same (dl_mono sr)
      have rG := rG.same (dl_mono sr)
      have rL := rL.same (dl_mono sr)
      have rF := rF.same (dl_mono sr)
      have rE := rE.same (dl_mono sr)
      have z := z.same sr
      have old := old.same sr
      have B := B.trans (RB.of sr)
      clear sr
      have f1 : (Dat.lst [.tup [.str "a", .int 1]]).fits := fitsB_ok (by decide +kernel)
      have s1 : (Dat.lst [.tup [.str "a", .int 1]]).shortS := short_of (by decide +kernel)
      have few1 : (setS (itR gD.runs ++ itR (Dat.lst [.tup [.str "a", .int 1]]).runs)).length ≤ 20 := ab_few (by decide +kernel)
      have no1 : ¬ AllEqB gD.runs (Dat.lst [.tup [.str "a", .int 1]]).runs := no_one
      -- the doors 2 and 3
      refine ⟨(by show 2 ≤ sizeLine; decide), fun tt nt => ⟨tt, rfl, ⟨_, .of upd_same⟩, ?_⟩⟩
      have st := same_upd (o := .tup [.int 2, .int 3]) nt
      have ht : (upd Hr tt (.tup [.int 2, .int 3])) tt = some (.tup [.int 2, .int 3]) := upd_same
      have rB := rB.same (dl_mono st)
      have rW := rW.same (dl_mono st)
      have rK := rK.same (dl_mono st)
      have rN := rN.same (dl_mono st)
      have rG := rG.same (dl_mono st)
      have rL := rL.same (dl_mono st)
      have rF := rF.same (dl_mono st)
      have rE := rE.same (dl_mono st)
      have rR := rR.same (dl_mono st)
      have z := z.same st
      have old := old.same st
      have B := B.trans (RB.of st)
      generalize upd Hr tt (.tup [.int 2, .int 3]) = Hd at *
      clear st nt
      refine for_tup (K := K) (a := tt) (xs := [.int 2, .int 3]) (fun j σ H' => ∃ vr l y5, σ = [some (.ref p), some (.int f), some vr, some nv, some ev, y5, some v0, some v1, some v2, some v3, some gv, some lv, some fv, none] ∧ Same Hd H' ∧ Rp (dl [p, L] H') vr (.lst l) ∧ GoodR l ∧ l.length ≤ 9 + 5 * j) ⟨vr, l, _, rfl, Same.refl _, rR, gg, ll⟩ (fun j σ H' _ hP => ?_) (fun j x σ H' ex hP => ?_) (fun σ H' hP => ?_)
      · obtain ⟨_, _, _, _, sm, _⟩ := hP
        exact .of (sm _ _ ht)
      · clear rR gg ll
        obtain ⟨vr, l, y5, rfl, sm, rR, gg, ll⟩ := hP
        obtain ⟨dr, rfl, hdr⟩ : ∃ dr : Int, x = .int dr ∧ (dr = 2 ∨ dr = 3) := by
          match j, ex with
          | 0, ex => exact ⟨2, (Option.some.inj ex).symm, .inl rfl⟩
          | 1, ex => exact ⟨3, (Option.some.inj ex).symm, .inr rfl⟩
        have hj : j < 2 := (List.getElem?_eq_some_iff.mp ex).1
        have rB := rB.same (dl_mono sm)
        have rW := rW.same (dl_mono sm)
        have rK := rK.same (dl_mono sm)
        have rN := rN.same (dl_mono sm)
        have rG := rG.same (dl_mono sm)
        have rL := rL.same (dl_mono sm)
        have rF := rF.same (dl_mono sm)
        have rE := rE.same (dl_mono sm)
        have z := z.same sm
        have old := old.same sm
        have B := B.trans (RB.of sm)
        have sT := sm
        refine g_stepF ?_
        refine set_go (σ' := [some (.ref p), some (.int f), some vr, some nv, some ev, some (.int dr), some v0, some v1, some v2, some v3, some gv, some lv, some fv, none]) rfl ?_
        refine ld_set (S := [p, L]) (d := .lst (l ++ [.tup [.int dr, .tup [dB, dL], .str "sequence"], .tup [.int dr, .tup [dL, dB], .str "long"], .tup [.int dr, .tup [gD, dB], .str "sequence"]])) (ld_cat old (ld_var rfl rR) (ld_lst old (lds_cons (ld_tup old (lds_cons (ld_var rfl (.int _)) (lds_cons (ld_tup old (lds_cons (ld_var rfl rB) (lds_cons (ld_var rfl rL) lds_nil)) (Nat.le_of_ble_eq_true rfl)) (lds_cons ld_str lds_nil))) (Nat.le_of_ble_eq_true rfl)) (lds_cons (ld_tup old (lds_cons (ld_var rfl (.int _)) (lds_cons (ld_tup old (lds_cons (ld_var rfl rL) (lds_cons (ld_var rfl rB) lds_nil)) (Nat.le_of_ble_eq_true rfl)) (lds_cons ld_str lds_nil))) (Nat.le_of_ble_eq_true rfl)) (lds_cons (ld_tup old (lds_cons (ld_var rfl (.int _)) (lds_cons (ld_tup old (lds_cons (ld_var rfl rG) (lds_cons (ld_var rfl rB) lds_nil)) (Nat.le_of_ble_eq_true rfl)) (lds_cons ld_str lds_nil))) (Nat.le_of_ble_eq_true rfl)) lds_nil))) (Nat.le_of_ble_eq_true rfl)) (by show l.length + 3 ≤ 1000; omega)) (fun Hr vr sr rR => ?_)
        have gg : GoodR (l ++ [.tup [.int dr, .tup [dB, dL], .str "sequence"], .tup [.int dr, .tup [dL, dB], .str "long"], .tup [.int dr, .tup [gD, dB], .str "sequence"]]) := goodR_app gg (goodR_cons ⟨⟨_, _, _, rfl, err23 hdr (.d2q fB fL qB) (.d3q fB fL qB)⟩, nis_row (by omega) (Nat.le_of_ble_eq_true rfl) (nis_of (by decide +kernel)) (consN (nB) (consN (nL) (nilN)))⟩ (goodR_cons ⟨⟨_, _, _, rfl, err23 hdr (.d2l fL fB qL lL) (.d3l fL fB qL lL)⟩, nis_row (by omega) (Nat.le_of_ble_eq_true rfl) (nis_of (by decide +kernel)) (consN (nL) (consN (nB) (nilN)))⟩ (goodR_cons ⟨⟨_, _, _, rfl, err23 hdr (.d2r fG fB sG qB) (.d3r fG fB sG qB)⟩, nis_row (by omega) (Nat.le_of_ble_eq_true rfl) (nis_of (by decide +kernel)) (consN (nG) (consN (nB) (nilN)))⟩ (goodR_nil))))
        have ll : (l ++ ([.tup [.int dr, .tup [dB, dL], .str "sequence"], .tup [.int dr, .tup [dL, dB], .str "long"], .tup [.int dr, .tup [gD, dB], .str "sequence"]] : List Dat)).length ≤ 9 + 5 * j + 3 := by rw [List.length_append]; exact Nat.add_le_add_right ll _
        generalize l ++ ([.tup [.int dr, .tup [dB, dL], .str "sequence"], .tup [.int dr, .tup [dL, dB], .str "long"], .tup [.int dr, .tup [gD, dB], .str "sequence"]] : List Dat) = l at rR gg ll
        refine set_go (σ' := [some (.ref p), some (.int f), some vr, some nv, some ev, some (.int dr), some v0, some v1, some v2, some v3, some gv, some lv, some fv, none]) rfl ?_
        have rB := rB.same (dl_mono sr)
        have rW := rW.same (dl_mono sr)
        have rK := rK.same (dl_mono sr)
        have rN := rN.same (dl_mono sr)
        have rG := rG.same (dl_mono sr)
        have rL := rL.same (dl_mono sr)
        have rF := rF.same (dl_mono sr)
        have rE := rE.same (dl_mono sr)
        have z := z.same sr
        have old := old.same sr
        have B := B.trans (RB.of sr)
        have sr0 := sr
        clear sr
        have sT := sT.trans sr0
        refine ld_set1 (S := [p, L]) (d := .lst (l ++ [.tup [.int dr, .tup [gD, dL], .str "long"], .tup [.int dr, .tup [gD, .lst [.tup [.str "a", .int 1]]], .str "none"]])) (ld_cat old (ld_var rfl rR) (ld_lst old (lds_cons (ld_tup old (lds_cons (ld_var rfl (.int _)) (lds_cons (ld_tup old (lds_cons (ld_var rfl rG) (lds_cons (ld_var rfl rL) lds_nil)) (Nat.le_of_ble_eq_true rfl)) (lds_cons ld_str lds_nil))) (Nat.le_of_ble_eq_true rfl)) (lds_cons (ld_tup old (lds_cons (ld_var rfl (.int _)) (lds_cons (ld_tup old (lds_cons (ld_var rfl rG) (lds_cons (ld_lst old (lds_cons (ld_tup old (lds_cons ld_str (lds_cons ld_int lds_nil)) (Nat.le_of_ble_eq_true rfl)) lds_nil) (Nat.le_of_ble_eq_true rfl)) lds_nil)) (Nat.le_of_ble_eq_true rfl)) (lds_cons ld_str lds_nil))) (Nat.le_of_ble_eq_true rfl)) lds_nil)) (Nat.le_of_ble_eq_true rfl)) (by show l.length + 2 ≤ 1000; omega)) (fun Hr vr sr rR => ?_)
        have gg : GoodR (l ++ [.tup [.int dr, .tup [gD, dL], .str "long"], .tup [.int dr, .tup [gD, .lst [.tup [.str "a", .int 1]]], .str "none"]]) := goodR_app gg (goodR_cons ⟨⟨_, _, _, rfl, err23 hdr (.d2m fG fL sG qL lL) (.d3m fG fL sG qL lL)⟩, nis_row (by omega) (Nat.le_of_ble_eq_true rfl) (nis_of (by decide +kernel)) (consN (nG) (consN (nL) (nilN)))⟩ (goodR_cons ⟨⟨_, _, _, rfl, err23 hdr (.d2o sG s1 few1) (.d3o fG f1 sG s1 few1 no1)⟩, nis_row (by omega) (Nat.le_of_ble_eq_true rfl) (nis_of (by decide +kernel)) (consN (nG) (consN (nis_of (by decide +kernel)) (nilN)))⟩ (goodR_nil)))
        have ll : (l ++ ([.tup [.int dr, .tup [gD, dL], .str "long"], .tup [.int dr, .tup [gD, .lst [.tup [.str "a", .int 1]]], .str "none"]] : List Dat)).length ≤ 9 + 5 * j + 3 + 2 := by rw [List.length_append]; exact Nat.add_le_add_right ll _
        generalize l ++ ([.tup [.int dr, .tup [gD, dL], .str "long"], .tup [.int dr, .tup [gD, .lst [.tup [.str "a", .int 1]]], .str "none"]] : List Dat) = l at rR gg ll
        have rB := rB.same (dl_mono sr)
        have rW := rW.same (dl_mono sr)
        have rK := rK.same (dl_mono sr)
        have rN := rN.same (dl_mono sr)
        have rG := rG.same (dl_mono sr)
        have rL := rL.same (dl_mono sr)
        have rF := rF.same (dl_mono sr)
        have rE := rE.same (dl_mono sr)
        have z := z.same sr
        have old := old.same sr
        have B := B.trans (RB.of sr)
        have sr0 := sr
        clear sr
        exact ⟨vr, l, _, rfl, sT.trans sr0, rR, gg, by omega⟩
      clear rR gg ll
      obtain ⟨vr, l, y5, rfl, sm, rR, gg, ll⟩ := hP
      have ll : l.length ≤ 19 := ll
      have rB := rB.same (dl_mono sm)
      have rW := rW.same (dl_mono sm)
      have rK := rK.same (dl_mono sm)
      have rN := rN.same (dl_mono sm)
      have rG := rG.same (dl_mono sm)
      have rL := rL.same (dl_mono sm)
      have rF := rF.same (dl_mono sm)
      have rE := rE.same (dl_mono sm)
      have z := z.same sm
      have old := old.same sm
      have B := B.trans (RB.of sm)
      clear sm ht
      have fB4 : (Dat.lst [.tup [.str "b", .int 400]]).fits := fitsB_ok (by decide +kernel)
      have sB4 : (Dat.lst [.tup [.str "b", .int 400]]).shortS := short_of (by decide +kernel)
      have fA4 : (Dat.lst [.tup [.str "a", .int 400]]).fits := fitsB_ok (by decide +kernel)
      have sA4 : (Dat.lst [.tup [.str "a", .int 400]]).shortS := short_of (by decide +kernel)
      refine ld_set (S := [p, L]) (d := .lst (l ++ [.tup [.int 2, .tup [fD, fD], .str "none"], .tup [.int 2, .tup [fD, .lst [.tup [.str "b", .int 400]]], .str "none"], .tup [.int 3, .tup [fD, .lst [.tup [.str "a", .int 400]]], .str "none"]])) (ld_cat old (ld_var rfl rR) (ld_lst old (lds_cons (ld_tup old (lds_cons ld_int (lds_cons (ld_tup old (lds_cons (ld_var rfl rF) (lds_cons (ld_var rfl rF) lds_nil)) (Nat.le_of_ble_eq_true rfl)) (lds_cons ld_str lds_nil))) (Nat.le_of_ble_eq_true rfl)) (lds_cons (ld_tup old (lds_cons ld_int (lds_cons (ld_tup old (lds_cons (ld_var rfl rF) (lds_cons (ld_lst old (lds_cons (ld_tup old (lds_cons ld_str (lds_cons ld_int lds_nil)) (Nat.le_of_ble_eq_true rfl)) lds_nil) (Nat.le_of_ble_eq_true rfl)) lds_nil)) (Nat.le_of_ble_eq_true rfl)) (lds_cons ld_str lds_nil))) (Nat.le_of_ble_eq_true rfl)) (lds_cons (ld_tup old (lds_cons ld_int (lds_cons (ld_tup old (lds_cons (ld_var rfl rF) (lds_cons (ld_lst old (lds_cons (ld_tup old (lds_cons ld_str (lds_cons ld_int lds_nil)) (Nat.le_of_ble_eq_true rfl)) lds_nil) (Nat.le_of_ble_eq_true rfl)) lds_nil)) (Nat.le_of_ble_eq_true rfl)) (lds_cons ld_str lds_nil))) (Nat.le_of_ble_eq_true rfl)) lds_nil))) (Nat.le_of_ble_eq_true rfl)) (by show l.length + 3 ≤ 1000; omega)) (fun Hr vr sr rR => ?_)
      have gg : GoodR (l ++ [.tup [.int 2, .tup [fD, fD], .str "none"], .tup [.int 2, .tup [fD, .lst [.tup [.str "b", .int 400]]], .str "none"], .tup [.int 3, .tup [fD, .lst [.tup [.str "a", .int 400]]], .str "none"]]) := goodR_app gg (goodR_cons ⟨⟨_, _, _, rfl, .d2o sF sF (ab_few (by decide +kernel))⟩, nis_row (by decide) (Nat.le_of_ble_eq_true rfl) (nis_of (by decide +kernel)) (consN (nF) (consN (nF) (nilN)))⟩ (goodR_cons ⟨⟨_, _, _, rfl, .d2o sF sB4 (ab_few (by decide +kernel))⟩, nis_row (by decide) (Nat.le_of_ble_eq_true rfl) (nis_of (by decide +kernel)) (consN (nF) (consN (nis_of (by decide +kernel)) (nilN)))⟩ (goodR_cons ⟨⟨_, _, _, rfl, .d3o fF fA4 sF sA4 (ab_few (by decide +kernel)) no_400⟩, nis_row (by decide) (Nat.le_of_ble_eq_true rfl) (nis_of (by decide +kernel)) (consN (nF) (consN (nis_of (by decide +kernel)) (nilN)))⟩ (goodR_nil))))
      have ll : (l ++ ([.tup [.int 2, .tup [fD, fD], .str "none"], .tup [.int 2, .tup [fD, .lst [.tup [.str "b", .int 400]]], .str "none"], .tup [.int 3, .tup [fD, .lst [.tup [.str "a", .int 400]]], .str "none"]] : List Dat)).length ≤ 19 + 3 := by rw [List.length_append]; exact Nat.add_le_add_right ll _
      generalize l ++ ([.tup [.int 2, .tup [fD, fD], .str "none"], .tup [.int 2, .tup [fD, .lst [.tup [.str "b", .int 400]]], .str "none"], .tup [.int 3, .tup [fD, .lst [.tup [.str "a", .int 400]]], .str "none"]] : List Dat) = l at rR gg ll
      refine set_go (σ' := [some (.ref p), some (.int f), some vr, some nv, some ev, y5, some v0, some v1, some v2, some v3, some gv, some lv, some fv, none]) rfl ?_
      have rB := rB.same (dl_mono sr)
      have rW := rW.same (dl_mono sr)
      have rK := rK.same (dl_mono sr)
      have rN := rN.same (dl_mono sr)
      have rG := rG.same (dl_mono sr)
      have rL := rL.same (dl_mono sr)
      have rF := rF.same (dl_mono sr)
      have rE := rE.same (dl_mono sr)
      have z := z.same sr
      have old := old.same sr
      have B := B.trans (RB.of sr)
      clear sr
      refine ld_set (S := [p, L]) (d := .lst (l ++ [.tup [.int 3, .tup [fD, fD], .str "same"], .tup [.int 4, .tup [fD, .non, .lst [.str "a"]], .str "none"]])) (ld_cat old (ld_var rfl rR) (ld_lst old (lds_cons (ld_tup old (lds_cons ld_int (lds_cons (ld_tup old (lds_cons (ld_var rfl rF) (lds_cons (ld_var rfl rF) lds_nil)) (Nat.le_of_ble_eq_true rfl)) (lds_cons ld_str lds_nil))) (Nat.le_of_ble_eq_true rfl)) (lds_cons (ld_tup old (lds_cons ld_int (lds_cons (ld_tup old (lds_cons (ld_var rfl rF) (lds_cons ld_non (lds_cons (ld_lst old (lds_cons ld_str lds_nil) (Nat.le_of_ble_eq_true rfl)) lds_nil))) (Nat.le_of_ble_eq_true rfl)) (lds_cons ld_str lds_nil))) (Nat.le_of_ble_eq_true rfl)) lds_nil)) (Nat.le_of_ble_eq_true rfl)) (by show l.length + 2 ≤ 1000; omega)) (fun Hr vr sr rR => ?_)
      have gg : GoodR (l ++ [.tup [.int 3, .tup [fD, fD], .str "same"], .tup [.int 4, .tup [fD, .non, .lst [.str "a"]], .str "none"]]) := goodR_app gg (goodR_cons ⟨⟨_, _, _, rfl, .d3s fF fF sF sF (ab_few (by decide +kernel)) (alleq_refl _)⟩, nis_row (by decide) (Nat.le_of_ble_eq_true rfl) (nis_of (by decide +kernel)) (consN (nF) (consN (nF) (nilN)))⟩ (goodR_cons ⟨⟨_, _, _, rfl, .d4o (ks := ["a"]) sF rfl ksA⟩, nis_row (by decide) (Nat.le_of_ble_eq_true rfl) (nis_of (by decide +kernel)) (consN (nF) (consN (nis_of (by decide +kernel)) (consN (nis_of (by decide +kernel)) (nilN))))⟩ (goodR_nil)))
      have ll : (l ++ ([.tup [.int 3, .tup [fD, fD], .str "same"], .tup [.int 4, .tup [fD, .non, .lst [.str "a"]], .str "none"]] : List Dat)).length ≤ 22 + 2 := by rw [List.length_append]; exact Nat.add_le_add_right ll _
      generalize l ++ ([.tup [.int 3, .tup [fD, fD], .str "same"], .tup [.int 4, .tup [fD, .non, .lst [.str "a"]], .str "none"]] : List Dat) = l at rR gg ll
      refine set_go (σ' := [some (.ref p), some (.int f), some vr, some nv, some ev, y5, some v0, some v1, some v2, some v3, some gv, some lv, some fv, none]) rfl ?_
      have rB := rB.same (dl_mono sr)
      have rW := rW.same (dl_mono sr)
      have rK := rK.same (dl_mono sr)
      have rN := rN.same (dl_mono sr)
      have rG := rG.same (dl_mono sr)
      have rL := rL.same (dl_mono sr)
      have rF := rF.same (dl_mono sr)
      have rE := rE.same (dl_mono sr)
      have z := z.same sr
      have old := old.same sr
      have B := B.trans (RB.of sr)
      clear sr
      have fG2 : (Dat.lst [.lst [.str "a", .int 2], .lst [.str "b", .int 1]]).fits := fitsB_ok (by decide +kernel)
      have sG2 : (Dat.lst [.lst [.str "a", .int 2], .lst [.str "b", .int 1]]).shortS := short_of (by decide +kernel)
      have fE0 : (Dat.lst []).fits := fitsB_ok (by decide +kernel)
      have sE0 : (Dat.lst []).shortS := short_of (by decide +kernel)
      have fT0 : (Dat.tup []).fits := fitsB_ok (by decide +kernel)
      have sT0 : (Dat.tup []).shortS := short_of (by decide +kernel)
      refine ld_set (S := [p, L]) (d := .lst (l ++ [.tup [.int 2, .tup [gD, gD], .str "none"], .tup [.int 3, .tup [gD, .lst [.lst [.str "a", .int 2], .lst [.str "b", .int 1]]], .str "same"], .tup [.int 3, .tup [.lst [], .tup []], .str "same"]])) (ld_cat old (ld_var rfl rR) (ld_lst old (lds_cons (ld_tup old (lds_cons ld_int (lds_cons (ld_tup old (lds_cons (ld_var rfl rG) (lds_cons (ld_var rfl rG) lds_nil)) (Nat.le_of_ble_eq_true rfl)) (lds_cons ld_str lds_nil))) (Nat.le_of_ble_eq_true rfl)) (lds_cons (ld_tup old (lds_cons ld_int (lds_cons (ld_tup old (lds_cons (ld_var rfl rG) (lds_cons (ld_lst old (lds_cons (ld_lst old (lds_cons ld_str (lds_cons ld_int lds_nil)) (Nat.le_of_ble_eq_true rfl)) (lds_cons (ld_lst old (lds_cons ld_str (lds_cons ld_int lds_nil)) (Nat.le_of_ble_eq_true rfl)) lds_nil)) (Nat.le_of_ble_eq_true rfl)) lds_nil)) (Nat.le_of_ble_eq_true rfl)) (lds_cons ld_str lds_nil))) (Nat.le_of_ble_eq_true rfl)) (lds_cons (ld_tup old (lds_cons ld_int (lds_cons (ld_tup old (lds_cons (ld_lst old lds_nil (Nat.le_of_ble_eq_true rfl)) (lds_cons (ld_tup old lds_nil (Nat.le_of_ble_eq_true rfl)) lds_nil)) (Nat.le_of_ble_eq_true rfl)) (lds_cons ld_str lds_nil))) (Nat.le_of_ble_eq_true rfl)) lds_nil))) (Nat.le_of_ble_eq_true rfl)) (by show l.length + 3 ≤ 1000; omega)) (fun Hr vr sr rR => ?_)
      have gg : GoodR (l ++ [.tup [.int 2, .tup [gD, gD], .str "none"], .tup [.int 3, .tup [gD, .lst [.lst [.str "a", .int 2], .lst [.str "b", .int 1]]], .str "same"], .tup [.int 3, .tup [.lst [], .tup []], .str "same"]]) := goodR_app gg (goodR_cons ⟨⟨_, _, _, rfl, .d2o sG sG (ab_few (by decide +kernel))⟩, nis_row (by decide) (Nat.le_of_ble_eq_true rfl) (nis_of (by decide +kernel)) (consN (nG) (consN (nG) (nilN)))⟩ (goodR_cons ⟨⟨_, _, _, rfl, .d3s fG fG2 sG sG2 (ab_few (by decide +kernel)) (alleq_of (by decide +kernel))⟩, nis_row (by decide) (Nat.le_of_ble_eq_true rfl) (nis_of (by decide +kernel)) (consN (nG) (consN (nis_of (by decide +kernel)) (nilN)))⟩ (goodR_cons ⟨⟨_, _, _, rfl, .d3s fE0 fT0 sE0 sT0 (ab_few (by decide +kernel)) (alleq_of (by decide +kernel))⟩, nis_row (by decide) (Nat.le_of_ble_eq_true rfl) (nis_of (by decide +kernel)) (consN (nis_of (by decide +kernel)) (consN (nis_of (by decide +kernel)) (nilN)))⟩ (goodR_nil))))
      have ll : (l ++ ([.tup [.int 2, .tup [gD, gD], .str "none"], .tup [.int 3, .tup [gD, .lst [.lst [.str "a", .int 2], .lst [.str "b", .int 1]]], .str "same"], .tup [.int 3, .tup [.lst [], .tup []], .str "same"]] : List Dat)).length ≤ 24 + 3 := by rw [List.length_append]; exact Nat.add_le_add_right ll _
      generalize l ++ ([.tup [.int 2, .tup [gD, gD], .str "none"], .tup [.int 3, .tup [gD, .lst [.lst [.str "a", .int 2], .lst [.str "b", .int 1]]], .str "same"], .tup [.int 3, .tup [.lst [], .tup []], .str "same"]] : List Dat) = l at rR gg ll
      refine set_go (σ' := [some (.ref p), some (.int f), some vr, some nv, some ev, y5, some v0, some v1, some v2, some v3, some gv, some lv, some fv, none]) rfl ?_
      have rB := rB.same (dl_mono sr)
      have rW := rW.same (dl_mono sr)
      have rK := rK.same (dl_mono sr)
      have rN := rN.same (dl_mono sr)
      have rG := rG.same (dl_mono sr)
      have rL := rL.same (dl_mono sr)
      have rF := rF.same (dl_mono sr)
      have rE := rE.same (dl_mono sr)
      have z := z.same sr
      have old := old.same sr
      have B := B.trans (RB.of sr)
      clear sr
      refine ld_set (S := [p, L]) (d := .lst (l ++ [.tup [.int 4, .tup [dB, dW, dN], .str "sequence"], .tup [.int 4, .tup [dL, dW, dN], .str "long"]])) (ld_cat old (ld_var rfl rR) (ld_lst old (lds_cons (ld_tup old (lds_cons ld_int (lds_cons (ld_tup old (lds_cons (ld_var rfl rB) (lds_cons (ld_var rfl rW) (lds_cons (ld_var rfl rN) lds_nil))) (Nat.le_of_ble_eq_true rfl)) (lds_cons ld_str lds_nil))) (Nat.le_of_ble_eq_true rfl)) (lds_cons (ld_tup old (lds_cons ld_int (lds_cons (ld_tup old (lds_cons (ld_var rfl rL) (lds_cons (ld_var rfl rW) (lds_cons (ld_var rfl rN) lds_nil))) (Nat.le_of_ble_eq_true rfl)) (lds_cons ld_str lds_nil))) (Nat.le_of_ble_eq_true rfl)) lds_nil)) (Nat.le_of_ble_eq_true rfl)) (by show l.length + 2 ≤ 1000; omega)) (fun Hr vr sr rR => ?_)
      have gg : GoodR (l ++ [.tup [.int 4, .tup [dB, dW, dN], .str "sequence"], .tup [.int 4, .tup [dL, dW, dN], .str "long"]]) := goodR_app gg (goodR_cons ⟨⟨_, _, _, rfl, .d4q fB fW fN qB⟩, nis_row (by decide) (Nat.le_of_ble_eq_true rfl) (nis_of (by decide +kernel)) (consN (nB) (consN (nW) (consN (nN) (nilN))))⟩ (goodR_cons ⟨⟨_, _, _, rfl, .d4l fL fW fN qL lL⟩, nis_row (by decide) (Nat.le_of_ble_eq_true rfl) (nis_of (by decide +kernel)) (consN (nL) (consN (nW) (consN (nN) (nilN))))⟩ (goodR_nil)))
      have ll : (l ++ ([.tup [.int 4, .tup [dB, dW, dN], .str "sequence"], .tup [.int 4, .tup [dL, dW, dN], .str "long"]] : List Dat)).length ≤ 27 + 2 := by rw [List.length_append]; exact Nat.add_le_add_right ll _
      generalize l ++ ([.tup [.int 4, .tup [dB, dW, dN], .str "sequence"], .tup [.int 4, .tup [dL, dW, dN], .str "long"]] : List Dat) = l at rR gg ll
      refine set_go (σ' := [some (.ref p), some (.int f), some vr, some nv, some ev, y5, some v0, some v1, some v2, some v3, some gv, some lv, some fv, none]) rfl ?_
      have rB := rB.same (dl_mono sr)
      have rW := rW.same (dl_mono sr)
      have rK := rK.same (dl_mono sr)
      have rN := rN.same (dl_mono sr)
      have rG := rG.same (dl_mono sr)
      have rL := rL.same (dl_mono sr)
      have rF := rF.same (dl_mono sr)
      have rE := rE.same (dl_mono sr)
      have z := z.same sr
      have old := old.same sr
      have B := B.trans (RB.of sr)
      clear sr
      refine ld_set (S := [p, L]) (d := .lst (l ++ [.tup [.int 4, .tup [gD, dW, dN], .str "state"], .tup [.int 4, .tup [gD, .non, dN], .str "kinds"]])) (ld_cat old (ld_var rfl rR) (ld_lst old (lds_cons (ld_tup old (lds_cons ld_int (lds_cons (ld_tup old (lds_cons (ld_var rfl rG) (lds_cons (ld_var rfl rW) (lds_cons (ld_var rfl rN) lds_nil))) (Nat.le_of_ble_eq_true rfl)) (lds_cons ld_str lds_nil))) (Nat.le_of_ble_eq_true rfl)) (lds_cons (ld_tup old (lds_cons ld_int (lds_cons (ld_tup old (lds_cons (ld_var rfl rG) (lds_cons ld_non (lds_cons (ld_var rfl rN) lds_nil))) (Nat.le_of_ble_eq_true rfl)) (lds_cons ld_str lds_nil))) (Nat.le_of_ble_eq_true rfl)) lds_nil)) (Nat.le_of_ble_eq_true rfl)) (by show l.length + 2 ≤ 1000; omega)) (fun Hr vr sr rR => ?_)
      have gg : GoodR (l ++ [.tup [.int 4, .tup [gD, dW, dN], .str "state"], .tup [.int 4, .tup [gD, .non, dN], .str "kinds"]]) := goodR_app gg (goodR_cons ⟨⟨_, _, _, rfl, .d4t fG fW fN sG sW⟩, nis_row (by decide) (Nat.le_of_ble_eq_true rfl) (nis_of (by decide +kernel)) (consN (nG) (consN (nW) (consN (nN) (nilN))))⟩ (goodR_cons ⟨⟨_, _, _, rfl, .d4k fG (fit2B_ok rfl) fN sG rfl kN⟩, nis_row (by decide) (Nat.le_of_ble_eq_true rfl) (nis_of (by decide +kernel)) (consN (nG) (consN (nis_of (by decide +kernel)) (consN (nN) (nilN))))⟩ (goodR_nil)))
      have ll : (l ++ ([.tup [.int 4, .tup [gD, dW, dN], .str "state"], .tup [.int 4, .tup [gD, .non, dN], .str "kinds"]] : List Dat)).length ≤ 29 + 2 := by rw [List.length_append]; exact Nat.add_le_add_right ll _
      generalize l ++ ([.tup [.int 4, .tup [gD, dW, dN], .str "state"], .tup [.int 4, .tup [gD, .non, dN], .str "kinds"]] : List Dat) = l at rR gg ll
      refine set_go (σ' := [some (.ref p), some (.int f), some vr, some nv, some ev, y5, some v0, some v1, some v2, some v3, some gv, some lv, some fv, none]) rfl ?_
      have rB := rB.same (dl_mono sr)
      have rW := rW.same (dl_mono sr)
      have rK := rK.same (dl_mono sr)
      have rN := rN.same (dl_mono sr)
      have rG := rG.same (dl_mono sr)
      have rL := rL.same (dl_mono sr)
      have rF := rF.same (dl_mono sr)
      have rE := rE.same (dl_mono sr)
      have z := z.same sr
      have old := old.same sr
      have B := B.trans (RB.of sr)
      clear sr
      have gg : GoodR (l ++ [.tup [.int 4, .tup [.lst [], .tup [.str "a", .int 1], .lst [.str "a"]], .str "none"]]) := goodR_app gg (goodR_cons ⟨⟨_, _, _, rfl, .d4o (ks := ["a"]) sE0 (by decide +kernel) ksA⟩, nis_row (by decide) (Nat.le_of_ble_eq_true rfl) (nis_of (by decide +kernel)) (consN (nis_of (by decide +kernel)) (consN (nis_of (by decide +kernel)) (consN (nis_of (by decide +kernel)) (nilN))))⟩ (goodR_nil))
      have ll2 : (l ++ ([.tup [.int 4, .tup [.lst [], .tup [.str "a", .int 1], .lst [.str "a"]], .str "none"]] : List Dat)).length ≤ 31 + 1 := by rw [List.length_append]; exact Nat.add_le_add_right ll _
      exact ld_cat (S := [p, L]) (b := [.tup [.int 4, .tup [.lst [], .tup [.str "a", .int 1], .lst [.str "a"]], .str "none"]]) old (ld_var rfl rR) (ld_lst old (lds_cons (ld_tup old (lds_cons ld_int (lds_cons (ld_tup old (lds_cons (ld_lst old lds_nil (Nat.le_of_ble_eq_true rfl)) (lds_cons (ld_tup old (lds_cons ld_str (lds_cons ld_int lds_nil)) (Nat.le_of_ble_eq_true rfl)) (lds_cons (ld_lst old (lds_cons ld_str lds_nil) (Nat.le_of_ble_eq_true rfl)) lds_nil))) (Nat.le_of_ble_eq_true rfl)) (lds_cons ld_str lds_nil))) (Nat.le_of_ble_eq_true rfl)) lds_nil) (Nat.le_of_ble_eq_true rfl)) (by show l.length + 1 ≤ 1000; omega) Hr _ (Same.refl _) (fun H' v s r => q H' v _ (B.trans (RB.of s)) (z.same s) (r.same dl_drop) gg (by omega))
end
end UP

set_option Elab.async false
set_option linter.all false
set_option maxRecDepth 100000
set_option maxHeartbeats 4000000
set_option pp.maxSteps 700
namespace UP
open PySem PySem.Spec PyProof.Rows L2
section
variable {P : Program} {w : World} {K : PySem.W.Frag} {mg : Str → Option Value} {base : Heap}
/-! law: slots 0:script 1:reel 2:k 3:rows 4:kept 5:door 6:parts 7:due -/
abbrev s_law : Stmt := topS 70
theorem sc_law : FnScope ["script", "reel", "k", "rows", "kept", "door", "parts", "due"] ["script"] (defScope s_law) := ⟨rfl, rfl, rfl, by decide +kernel, rfl, by decide +kernel, by decide +kernel⟩
def sp_law (K : PySem.W.Frag) : Sp := fun vs H Q _ => ∃ (a : Addr) (ns : List Int), vs = [.ref a] ∧ SqL K H a (ns.map V.int) ∧ ns.length ≤ 63 ∧ ∀ H', Q (.bl true) H'
theorem fn_law {f : Addr} {fd : FuncData} (F : Fun K "law" "law" s_law f fd) (T : Tx mg)
    (G_law_reel : Has P w K mg base 1 "_law_reel" ["script"] (sp_law_reel K)) (G_law_rows : Has P w K mg base 3 "_law_rows" ["reel"] sp_law_rows) (G_law_error : Has P w K mg base 10 "_law_error" ["door", "parts"] sp_law_error) :
    FnC P w K mg base f fd ["script"] (sp_law K) := by
  refine fnC_of F sc_law (fun vs H Q E h => ?_) (fun cdv outer s H vs Q E hr h => ?_)
  · obtain ⟨_, _, rfl, _⟩ := h
    rfl
  · obtain ⟨a, ns, rfl, hS, l63, q⟩ := h
    have hr := Room.deeper (show Room (10 + 1) callerA from ⟨rfl, by decide, by decide⟩) (envOfC "law" (defScope s_law) s.heap.objs.size f cdv)
    refine ⟨_, (pss_cons (ps_set (i := 1) sc_law.nd rfl (by first | exact Or.inl rfl | exact Or.inr rfl) (pe_callH G_law_reel (hr.mono (by omega)) (by rfl) (pa_cons (pv 0) pa_nil)))
    (pss_cons (ps_for PassesOwn.never rfl (pi_range1 (by rfl) T.n_range (pa_cons (pe_op op_add pe_int (pe_callB (call_min2 rfl) (by rfl) T.n_min (by decide +kernel) (pa_cons (pe_callB call_len_seq (by rfl) T.n_len (by decide +kernel) (pa_cons (pv 0) pa_nil)) (pa_cons pe_int pa_nil)))) pa_nil)) (pg_name (i := 2) sc_law.nd rfl (by first | exact Or.inl rfl | exact Or.inr rfl))
      (pss_cons (ps_set (i := 3) sc_law.nd rfl (by first | exact Or.inl rfl | exact Or.inr rfl) (pe_callH G_law_rows (hr.mono (by omega)) (by rfl) (pa_cons (pv 1) pa_nil)))
    (pss_cons (ps_set (i := 4) sc_law.nd rfl (by first | exact Or.inl rfl | exact Or.inr rfl) (pe_callB (call_reprR (by rfl) (room70 hr)) (by rfl) T.n_repr (by decide +kernel) (pa_cons (pv 3) pa_nil)))
    (pss_cons (ps_for PassesOwn.never rfl (pi_list (pv 3)) (pg_tup rfl (pgs_cons (pg_name (i := 5) sc_law.nd rfl (by first | exact Or.inl rfl | exact Or.inr rfl)) (pgs_cons (pg_name (i := 6) sc_law.nd rfl (by first | exact Or.inl rfl | exact Or.inr rfl)) (pgs_cons (pg_name (i := 7) sc_law.nd rfl (by first | exact Or.inl rfl | exact Or.inr rfl)) pgs_nil))))
      (pss_one (ps_if (pt_cmpR op_ne (pe_callH G_law_error (hr.mono (by omega)) (by rfl) (pa_cons (pv 5) (pa_cons (pv 6) pa_nil))) (pv 7) (nomark _)) (pss_one (ps_ret pe_bl)) pss_nil)))
    (pss_one (ps_if (pt_cmpR op_ne (pe_callB (call_reprR (by rfl) (room70 hr)) (by rfl) T.n_repr (by decide +kernel) (pa_cons (pv 3) pa_nil)) (pv 4) (nomark _)) (pss_one (ps_ret pe_bl)) pss_nil))))))
    (pss_one (ps_ret pe_bl)))), ?_⟩
    refine ⟨_, rfl, a, ns, rfl, hS, fun H1 p s1 np z1 => ?_⟩
    refine ⟨_, rfl, a, _, rfl, .inl (s1.seq hS), _, _, rfl, _, _, rfl, rfl, _, rfl, ?_, ?_, for_range (lo := 0) (n := _) (fun i σ H' => ∃ y2 y3 y4 y5 y6 y7, σ = [some (.ref a), some (.ref p), y2, y3, y4, y5, y6, y7] ∧ Reel H' p)
      ⟨none, none, none, none, none, none, rfl, z1⟩ (fun i σ H2 hi hP => ?_) (fun σ H2 hP => ?_)⟩
    · rw [List.length_map]
      split <;> omega
    · rw [List.length_map]
      split <;> omega
    · obtain ⟨y2, y3, y4, y5, y6, y7, rfl, z2⟩ := hP
      refine ⟨_, rfl, p, rfl, z2, fun H3 v l b3 z3 rR gg ll => ?_⟩
      obtain ⟨k1, k2, k3⟩ := (nis_lst (w := 1900) (n := 6) (l := l) fun d hd => (gg d hd).2).fits (by have := Nat.mul_le_mul_left 1901 ll; omega) (by decide)
      obtain ⟨rA, xs, rfl, hx, hpr⟩ := dl_lst rR
      have hpr : Paired (Rp H3) xs l := Paired.imp (fun _ _ h => h.same dl_sub) hpr
      have rr : Rp H3 (.ref rA) (.lst l) := .lst hx hpr
      refine ⟨_, rfl, rA, .lst l, rfl, rr, k1, k2, k3, ?_⟩
      refine ⟨_, rfl, rA, rfl, ⟨xs, .of hx⟩, for_list (K := K) (a := rA) (xs := xs) (fun j σ H' => ∃ y5 y6 y7, σ = [some (.ref a), some (.ref p), some (.int (0 + (i : Int))), some (.ref rA), some (.str (Dat.lst l).py.shown), y5, y6, y7] ∧ Same H3 H') ⟨_, _, _, rfl, Same.refl _⟩ (fun j σ H' _ hP => ?_) (fun j x σ H' ex hP => ?_) (fun σ H' hP => ?_)⟩
      · obtain ⟨_, _, _, _, sm⟩ := hP
        exact .of (sm _ _ hx)
      · obtain ⟨y5, y6, y7, rfl, sm⟩ := hP
        obtain ⟨dx, ed, hdx⟩ := Paired.at hpr ex
        obtain ⟨⟨k, ps, due, rfl, er⟩, _⟩ := gg dx (List.mem_of_getElem? ed)
        obtain ⟨t, v1, v2, v3, rfl, ht, h1, h2, h3⟩ := tup3_of (hdx.same sm)
        cases h1
        cases h3
        refine ⟨t, _, rfl, .of ht, rfl, _, _, rfl, _, _, rfl, _, _, rfl, rfl, ?_⟩
        refine ⟨_, rfl, _, rfl, k, v2, ps, due, rfl, h2, er, fun H11 s11 => ?_⟩
        refine ⟨_, rfl, rfl, _, rfl, iteN (by rw [decide_eq_true rfl]; rfl) ?_⟩
        exact ⟨_, _, _, rfl, sm.trans s11⟩
      obtain ⟨y5, y6, y7, rfl, sm⟩ := hP
      refine ⟨_, rfl, rA, .lst l, rfl, rr.same sm, k1, k2, k3, _, rfl, rfl, _, rfl, iteN (by rw [decide_eq_true rfl]; rfl) ?_⟩
      exact ⟨_, _, _, _, _, _, rfl, z3.same sm⟩
    · exact q _
end
end UP

set_option Elab.async false
set_option linter.all false
set_option maxRecDepth 100000
set_option maxHeartbeats 4000000
namespace UP
open PySem PySem.Spec PyProof.Rows L2
section
variable {K : PySem.W.Frag} {h : Heap} {mg : Str → Option Value}
theorem df_mk {x : Str} {st : Stmt} {f : Addr} {od an : Option Addr} {sl : Array (Option Value)} {oc kV dc pm cd ct : Value} (X : K.In h) (G : h.Ns mainGlobals mg) (a : PySem.W.nsIn K mainGlobals x = some (some (.ref f)))
    (l : K.lookup f = some ⟨oc, od, .func (PySem.W.fnOf x x (defArgs st) (defBody st) (defScope st) .none kV dc pm an cd ct), sl⟩) (c : PySem.W.codeIn K cd x = true) (k : PySem.W.keepIn K (.ref f) = true) : Df K mg x st :=
  ⟨f, _, PySem.W.mg_of X G a, fun_mk l c k⟩
theorem dfd_mk {x : Str} {st : Stmt} {f T : Addr} {od an od2 : Option Addr} {sl sl2 : Array (Option Value)} {n2 : Nat} {oc kV dc pm cd ct oc2 : Value} (X : K.In h) (G : h.Ns mainGlobals mg) (a : PySem.W.nsIn K mainGlobals x = some (some (.ref f)))
    (l : K.lookup f = some ⟨oc, od, .func (PySem.W.fnOf x x (defArgs st) (defBody st) (defScope st) (.ref T) kV dc pm an cd ct), sl⟩) (t : K.lookup T = some ⟨oc2, od2, .seq #[.none] n2, sl2⟩) (c : PySem.W.codeIn K cd x = true) (k : PySem.W.keepIn K (.ref f) = true) : DfD K mg x st [.non] :=
  ⟨f, _, PySem.W.mg_of X G a, ⟨⟨oc, od, _, kV, dc, pm, an, cd, ct, sl, rfl, l, c, .inr ⟨(by intro z; cases z), T, _, [.none], n2, rfl, t, rfl, .cons rfl .nil⟩, .inl rfl⟩, k⟩⟩
theorem cst_mkS {x : Str} {i : Str} {t : Tok} (X : K.In h) (G : h.Ns mainGlobals mg) (a : PySem.W.nsIn K mainGlobals x = some (some (.str i t))) : ∃ t, mg x = some (.str i t) := ⟨t, PySem.W.mg_of X G a⟩
theorem cst_mk {x : Str} {i : Int} {t : Tok} (X : K.In h) (G : h.Ns mainGlobals mg) (a : PySem.W.nsIn K mainGlobals x = some (some (.int i t))) : ∃ t, mg x = some (.int i t) := ⟨t, PySem.W.mg_of X G a⟩
end
/-! ### the classes -/
def CA (mg : Str → Option Value) (n : Str) : Addr := match mg n with
  | some (.ref C) => C
  | _ => 0
theorem ca_of {mg : Str → Option Value} {n : Str} {C : Addr} (h : mg n = some (.ref C)) : CA mg n = C := by
  unfold CA
  rw [h]
def P2 (K : PySem.W.Frag) (mg : Str → Option Value) (nm n : Str) (r : Bool) : Prop := ∃ D C, mg nm = some (.ref D) ∧ mg n = some (.ref C) ∧ PySem.W.kitOne K (.ref D) (.ref C) = some r
def P1 (K : PySem.W.Frag) (mg : Str → Option Value) (nm : Str) : Prop := ∃ D B, mg nm = some (.ref D) ∧ mg "PairError" = some (.ref B) ∧ Ex K mg nm D ∧ ExcC K D ∧ PySem.W.exmOne K (.ref D) (.ref B) = some true ∧ PySem.W.kitOne K (.ref D) (.ref B) = some true ∧ PySem.W.kitOne K (.ref D) (.type "ValueError") = some true
section
variable {K : PySem.W.Frag} {h : Heap} {mg : Str → Option Value}
theorem p2_mk {nm n : Str} {r : Bool} {D C : Addr} (X : K.In h) (G : h.Ns mainGlobals mg) (a : PySem.W.nsIn K mainGlobals nm = some (some (.ref D))) (b : PySem.W.nsIn K mainGlobals n = some (some (.ref C))) (k : PySem.W.kitOne K (.ref D) (.ref C) = some r) : P2 K mg nm n r := ⟨D, C, PySem.W.mg_of X G a, PySem.W.mg_of X G b, k⟩
theorem p1_mk {nm : Str} {D B : Addr} (X : K.In h) (G : h.Ns mainGlobals mg) (a : PySem.W.nsIn K mainGlobals nm = some (some (.ref D))) (b : PySem.W.nsIn K mainGlobals "PairError" = some (some (.ref B)))
    (x : PySem.W.excIn K D [.type "ValueError", .type "Exception", .type "BaseException", .type "object"] "ValueError.__new__" = true) (k : PySem.W.keepIn K (.ref D) = true) (bs : PySem.W.subIn K (.ref D) (.type "BaseException") = some true) (t : PySem.W.typeIn K (.ref D) = some (.type "type"))
    (e1 : PySem.W.findIn K (.ref D) "__getattribute__" = some (some (.builtin "BaseException.__getattribute__"))) (e2 : PySem.W.findIn K (.ref D) "__getattr__" = some none) (e3 : PySem.W.hasDictIn K D = true) (e4 : PySem.W.findIn K (.ref D) "__class__" = some (some (.builtin "object.__class__")))
    (e5 : PySem.W.specialIn K (.builtin "object.__class__") "__get__" = some (some (.builtin "getset_descriptor.__get__"))) (e6 : PySem.W.takesIn K (.builtin "object.__class__") = some true) (e7 : PySem.W.mroIn K D (.type "object") = some true)
    (m : PySem.W.exmOne K (.ref D) (.ref B) = some true) (k1 : PySem.W.kitOne K (.ref D) (.ref B) = some true) (k2 : PySem.W.kitOne K (.ref D) (.type "ValueError") = some true) : P1 K mg nm :=
  ⟨D, B, PySem.W.mg_of X G a, PySem.W.mg_of X G b, ⟨PySem.W.mg_of X G a, x, k, bs, t⟩, ⟨e1, e2, bs, e3, e4, e5, e6, e7⟩, m, k1, k2⟩
theorem clsF_of {nm : Str} (h : P1 K mg nm) (k : ∀ n, n ∈ six ++ (oddA ++ oddB) → P2 K mg nm n (decide (n = nm))) : ClsF K (CA mg) nm ∧ Ex K mg nm (CA mg nm) := by
  obtain ⟨D, B, g, gb, ex, ec, m, k1, k2⟩ := h
  have eD := ca_of g
  have eB := ca_of gb
  refine ⟨⟨by rw [eD]; exact ec, by rw [eD, eB]; exact m, fun n hn => ?_, by rw [eD, eB]; exact k1, by rw [eD]; exact k2⟩, by rw [eD]; exact ex⟩
  obtain ⟨D', C, g', gc, kk⟩ := k n hn
  rw [g] at g'
  cases g'
  rw [eD, ca_of gc]
  exact kk
def P0 (K : PySem.W.Frag) (mg : Str → Option Value) (nm : Str) : Prop := ∃ D B, mg nm = some (.ref D) ∧ mg "PairError" = some (.ref B) ∧ ExcC K D ∧ PySem.W.exmOne K (.ref D) (.ref B) = some true ∧ PySem.W.kitOne K (.ref D) (.ref B) = some true ∧ PySem.W.kitOne K (.ref D) (.type "ValueError") = some true
theorem p0_mk {nm : Str} {D B : Addr} (X : K.In h) (G : h.Ns mainGlobals mg) (a : PySem.W.nsIn K mainGlobals nm = some (some (.ref D))) (b : PySem.W.nsIn K mainGlobals "PairError" = some (some (.ref B)))
    (bs : PySem.W.subIn K (.ref D) (.type "BaseException") = some true)
    (e1 : PySem.W.findIn K (.ref D) "__getattribute__" = some (some (.builtin "BaseException.__getattribute__"))) (e2 : PySem.W.findIn K (.ref D) "__getattr__" = some none) (e3 : PySem.W.hasDictIn K D = true) (e4 : PySem.W.findIn K (.ref D) "__class__" = some (some (.builtin "object.__class__")))
    (e5 : PySem.W.specialIn K (.builtin "object.__class__") "__get__" = some (some (.builtin "getset_descriptor.__get__"))) (e6 : PySem.W.takesIn K (.builtin "object.__class__") = some true) (e7 : PySem.W.mroIn K D (.type "object") = some true)
    (m : PySem.W.exmOne K (.ref D) (.ref B) = some true) (k1 : PySem.W.kitOne K (.ref D) (.ref B) = some true) (k2 : PySem.W.kitOne K (.ref D) (.type "ValueError") = some true) : P0 K mg nm :=
  ⟨D, B, PySem.W.mg_of X G a, PySem.W.mg_of X G b, ⟨e1, e2, bs, e3, e4, e5, e6, e7⟩, m, k1, k2⟩
theorem clsF0_of {nm : Str} (h : P0 K mg nm) (k : ∀ n, n ∈ six ++ (oddA ++ oddB) → P2 K mg nm n (decide (n = nm))) : ClsF K (CA mg) nm := by
  obtain ⟨D, B, g, gb, ec, m, k1, k2⟩ := h
  have eD := ca_of g
  have eB := ca_of gb
  refine ⟨by rw [eD]; exact ec, by rw [eD, eB]; exact m, fun n hn => ?_, by rw [eD, eB]; exact k1, by rw [eD]; exact k2⟩
  obtain ⟨D', C, g', gc, kk⟩ := k n hn
  rw [g] at g'
  cases g'
  rw [eD, ca_of gc]
  exact kk
theorem cmg_of {nm : Str} (h : P1 K mg nm) (k : ∀ n, n ∈ six ++ (oddA ++ oddB) → P2 K mg nm n (decide (n = nm))) : Cmg mg (CA mg) := by
  refine ⟨fun n hn => ?_⟩
  have hn : n ∈ (six ++ (oddA ++ oddB)) ∨ n = "PairError" := by
    rcases List.mem_append.mp hn with z | z
    · exact .inl (List.mem_append.mpr (.inl z))
    · rcases List.mem_append.mp z with z | z
      · exact .inl (List.mem_append.mpr (.inr (List.mem_append.mpr (.inl z))))
      · rcases List.mem_append.mp z with z | z
        · exact .inl (List.mem_append.mpr (.inr (List.mem_append.mpr (.inr z))))
        · exact .inr (List.mem_singleton.mp z)
  rcases hn with z | z
  · obtain ⟨D, C, _, gc, _⟩ := k n z
    rw [ca_of gc]
    exact gc
  · obtain ⟨D, B, _, gb, _⟩ := h
    rw [z, ca_of gb]
    exact gb
end
/-- all that the top has written -/
structure Top (K : PySem.W.Frag) (mg : Str → Option Value) : Prop where
  T : Tx mg
  p_InvalidSequence : P1 K mg "InvalidSequence"
  k_InvalidSequence_InvalidSequence : P2 K mg "InvalidSequence" "InvalidSequence" true
  k_InvalidSequence_InvalidState : P2 K mg "InvalidSequence" "InvalidState" false
  k_InvalidSequence_InvalidPosition : P2 K mg "InvalidSequence" "InvalidPosition" false
  k_InvalidSequence_InvalidNumber : P2 K mg "InvalidSequence" "InvalidNumber" false
  k_InvalidSequence_InvalidItems : P2 K mg "InvalidSequence" "InvalidItems" false
  k_InvalidSequence_TooLong : P2 K mg "InvalidSequence" "TooLong" false
  k_InvalidSequence_Contradiction : P2 K mg "InvalidSequence" "Contradiction" false
  k_InvalidSequence_Impossible : P2 K mg "InvalidSequence" "Impossible" false
  k_InvalidSequence_InvalidCommand : P2 K mg "InvalidSequence" "InvalidCommand" false
  k_InvalidSequence_InvalidCounts : P2 K mg "InvalidSequence" "InvalidCounts" false
  k_InvalidSequence_InvalidEffects : P2 K mg "InvalidSequence" "InvalidEffects" false
  k_InvalidSequence_InvalidKind : P2 K mg "InvalidSequence" "InvalidKind" false
  k_InvalidSequence_InvalidKinds : P2 K mg "InvalidSequence" "InvalidKinds" false
  k_InvalidSequence_InvalidRecord : P2 K mg "InvalidSequence" "InvalidRecord" false
  k_InvalidSequence_InvalidText : P2 K mg "InvalidSequence" "InvalidText" false
  k_InvalidSequence_NothingToUndo : P2 K mg "InvalidSequence" "NothingToUndo" false
  k_InvalidSequence_SameEffect : P2 K mg "InvalidSequence" "SameEffect" false
  k_InvalidSequence_TooMany : P2 K mg "InvalidSequence" "TooMany" false
  p_TooLong : P1 K mg "TooLong"
  k_TooLong_InvalidSequence : P2 K mg "TooLong" "InvalidSequence" false
  k_TooLong_InvalidState : P2 K mg "TooLong" "InvalidState" false
  k_TooLong_InvalidPosition : P2 K mg "TooLong" "InvalidPosition" false
  k_TooLong_InvalidNumber : P2 K mg "TooLong" "InvalidNumber" false
  k_TooLong_InvalidItems : P2 K mg "TooLong" "InvalidItems" false
  k_TooLong_TooLong : P2 K mg "TooLong" "TooLong" true
  k_TooLong_Contradiction : P2 K mg "TooLong" "Contradiction" false
  k_TooLong_Impossible : P2 K mg "TooLong" "Impossible" false
  k_TooLong_InvalidCommand : P2 K mg "TooLong" "InvalidCommand" false
  k_TooLong_InvalidCounts : P2 K mg "TooLong" "InvalidCounts" false
  k_TooLong_InvalidEffects : P2 K mg "TooLong" "InvalidEffects" false
  k_TooLong_InvalidKind : P2 K mg "TooLong" "InvalidKind" false
  k_TooLong_InvalidKinds : P2 K mg "TooLong" "InvalidKinds" false
  k_TooLong_InvalidRecord : P2 K mg "TooLong" "InvalidRecord" false
  k_TooLong_InvalidText : P2 K mg "TooLong" "InvalidText" false
  k_TooLong_NothingToUndo : P2 K mg "TooLong" "NothingToUndo" false
  k_TooLong_SameEffect : P2 K mg "TooLong" "SameEffect" false
  k_TooLong_TooMany : P2 K mg "TooLong" "TooMany" false
  p_InvalidKind : P1 K mg "InvalidKind"
  k_InvalidKind_InvalidSequence : P2 K mg "InvalidKind" "InvalidSequence" false
  k_InvalidKind_InvalidState : P2 K mg "InvalidKind" "InvalidState" false
  k_InvalidKind_InvalidPosition : P2 K mg "InvalidKind" "InvalidPosition" false
  k_InvalidKind_InvalidNumber : P2 K mg "InvalidKind" "InvalidNumber" false
  k_InvalidKind_InvalidItems : P2 K mg "InvalidKind" "InvalidItems" false
  k_InvalidKind_TooLong : P2 K mg "InvalidKind" "TooLong" false
  k_InvalidKind_Contradiction : P2 K mg "InvalidKind" "Contradiction" false
  k_InvalidKind_Impossible : P2 K mg "InvalidKind" "Impossible" false
  k_InvalidKind_InvalidCommand : P2 K mg "InvalidKind" "InvalidCommand" false
  k_InvalidKind_InvalidCounts : P2 K mg "InvalidKind" "InvalidCounts" false
  k_InvalidKind_InvalidEffects : P2 K mg "InvalidKind" "InvalidEffects" false
  k_InvalidKind_InvalidKind : P2 K mg "InvalidKind" "InvalidKind" true
  k_InvalidKind_InvalidKinds : P2 K mg "InvalidKind" "InvalidKinds" false
  k_InvalidKind_InvalidRecord : P2 K mg "InvalidKind" "InvalidRecord" false
  k_InvalidKind_InvalidText : P2 K mg "InvalidKind" "InvalidText" false
  k_InvalidKind_NothingToUndo : P2 K mg "InvalidKind" "NothingToUndo" false
  k_InvalidKind_SameEffect : P2 K mg "InvalidKind" "SameEffect" false
  k_InvalidKind_TooMany : P2 K mg "InvalidKind" "TooMany" false
  p_InvalidEffects : P1 K mg "InvalidEffects"
  k_InvalidEffects_InvalidSequence : P2 K mg "InvalidEffects" "InvalidSequence" false
  k_InvalidEffects_InvalidState : P2 K mg "InvalidEffects" "InvalidState" false
  k_InvalidEffects_InvalidPosition : P2 K mg "InvalidEffects" "InvalidPosition" false
  k_InvalidEffects_InvalidNumber : P2 K mg "InvalidEffects" "InvalidNumber" false
  k_InvalidEffects_InvalidItems : P2 K mg "InvalidEffects" "InvalidItems" false
  k_InvalidEffects_TooLong : P2 K mg "InvalidEffects" "TooLong" false
  k_InvalidEffects_Contradiction : P2 K mg "InvalidEffects" "Contradiction" false
  k_InvalidEffects_Impossible : P2 K mg "InvalidEffects" "Impossible" false
  k_InvalidEffects_InvalidCommand : P2 K mg "InvalidEffects" "InvalidCommand" false
  k_InvalidEffects_InvalidCounts : P2 K mg "InvalidEffects" "InvalidCounts" false
  k_InvalidEffects_InvalidEffects : P2 K mg "InvalidEffects" "InvalidEffects" true
  k_InvalidEffects_InvalidKind : P2 K mg "InvalidEffects" "InvalidKind" false
  k_InvalidEffects_InvalidKinds : P2 K mg "InvalidEffects" "InvalidKinds" false
  k_InvalidEffects_InvalidRecord : P2 K mg "InvalidEffects" "InvalidRecord" false
  k_InvalidEffects_InvalidText : P2 K mg "InvalidEffects" "InvalidText" false
  k_InvalidEffects_NothingToUndo : P2 K mg "InvalidEffects" "NothingToUndo" false
  k_InvalidEffects_SameEffect : P2 K mg "InvalidEffects" "SameEffect" false
  k_InvalidEffects_TooMany : P2 K mg "InvalidEffects" "TooMany" false
  p_InvalidState : P1 K mg "InvalidState"
  k_InvalidState_InvalidSequence : P2 K mg "InvalidState" "InvalidSequence" false
  k_InvalidState_InvalidState : P2 K mg "InvalidState" "InvalidState" true
  k_InvalidState_InvalidPosition : P2 K mg "InvalidState" "InvalidPosition" false
  k_InvalidState_InvalidNumber : P2 K mg "InvalidState" "InvalidNumber" false
  k_InvalidState_InvalidItems : P2 K mg "InvalidState" "InvalidItems" false
  k_InvalidState_TooLong : P2 K mg "InvalidState" "TooLong" false
  k_InvalidState_Contradiction : P2 K mg "InvalidState" "Contradiction" false
  k_InvalidState_Impossible : P2 K mg "InvalidState" "Impossible" false
  k_InvalidState_InvalidCommand : P2 K mg "InvalidState" "InvalidCommand" false
  k_InvalidState_InvalidCounts : P2 K mg "InvalidState" "InvalidCounts" false
  k_InvalidState_InvalidEffects : P2 K mg "InvalidState" "InvalidEffects" false
  k_InvalidState_InvalidKind : P2 K mg "InvalidState" "InvalidKind" false
  k_InvalidState_InvalidKinds : P2 K mg "InvalidState" "InvalidKinds" false
  k_InvalidState_InvalidRecord : P2 K mg "InvalidState" "InvalidRecord" false
  k_InvalidState_InvalidText : P2 K mg "InvalidState" "InvalidText" false
  k_InvalidState_NothingToUndo : P2 K mg "InvalidState" "NothingToUndo" false
  k_InvalidState_SameEffect : P2 K mg "InvalidState" "SameEffect" false
  k_InvalidState_TooMany : P2 K mg "InvalidState" "TooMany" false
  p_InvalidKinds : P1 K mg "InvalidKinds"
  k_InvalidKinds_InvalidSequence : P2 K mg "InvalidKinds" "InvalidSequence" false
  k_InvalidKinds_InvalidState : P2 K mg "InvalidKinds" "InvalidState" false
  k_InvalidKinds_InvalidPosition : P2 K mg "InvalidKinds" "InvalidPosition" false
  k_InvalidKinds_InvalidNumber : P2 K mg "InvalidKinds" "InvalidNumber" false
  k_InvalidKinds_InvalidItems : P2 K mg "InvalidKinds" "InvalidItems" false
  k_InvalidKinds_TooLong : P2 K mg "InvalidKinds" "TooLong" false
  k_InvalidKinds_Contradiction : P2 K mg "InvalidKinds" "Contradiction" false
  k_InvalidKinds_Impossible : P2 K mg "InvalidKinds" "Impossible" false
  k_InvalidKinds_InvalidCommand : P2 K mg "InvalidKinds" "InvalidCommand" false
  k_InvalidKinds_InvalidCounts : P2 K mg "InvalidKinds" "InvalidCounts" false
  k_InvalidKinds_InvalidEffects : P2 K mg "InvalidKinds" "InvalidEffects" false
  k_InvalidKinds_InvalidKind : P2 K mg "InvalidKinds" "InvalidKind" false
  k_InvalidKinds_InvalidKinds : P2 K mg "InvalidKinds" "InvalidKinds" true
  k_InvalidKinds_InvalidRecord : P2 K mg "InvalidKinds" "InvalidRecord" false
  k_InvalidKinds_InvalidText : P2 K mg "InvalidKinds" "InvalidText" false
  k_InvalidKinds_NothingToUndo : P2 K mg "InvalidKinds" "NothingToUndo" false
  k_InvalidKinds_SameEffect : P2 K mg "InvalidKinds" "SameEffect" false
  k_InvalidKinds_TooMany : P2 K mg "InvalidKinds" "TooMany" false
  p_SameEffect : P1 K mg "SameEffect"
  k_SameEffect_InvalidSequence : P2 K mg "SameEffect" "InvalidSequence" false
  k_SameEffect_InvalidState : P2 K mg "SameEffect" "InvalidState" false
  k_SameEffect_InvalidPosition : P2 K mg "SameEffect" "InvalidPosition" false
  k_SameEffect_InvalidNumber : P2 K mg "SameEffect" "InvalidNumber" false
  k_SameEffect_InvalidItems : P2 K mg "SameEffect" "InvalidItems" false
  k_SameEffect_TooLong : P2 K mg "SameEffect" "TooLong" false
  k_SameEffect_Contradiction : P2 K mg "SameEffect" "Contradiction" false
  k_SameEffect_Impossible : P2 K mg "SameEffect" "Impossible" false
  k_SameEffect_InvalidCommand : P2 K mg "SameEffect" "InvalidCommand" false
  k_SameEffect_InvalidCounts : P2 K mg "SameEffect" "InvalidCounts" false
  k_SameEffect_InvalidEffects : P2 K mg "SameEffect" "InvalidEffects" false
  k_SameEffect_InvalidKind : P2 K mg "SameEffect" "InvalidKind" false
  k_SameEffect_InvalidKinds : P2 K mg "SameEffect" "InvalidKinds" false
  k_SameEffect_InvalidRecord : P2 K mg "SameEffect" "InvalidRecord" false
  k_SameEffect_InvalidText : P2 K mg "SameEffect" "InvalidText" false
  k_SameEffect_NothingToUndo : P2 K mg "SameEffect" "NothingToUndo" false
  k_SameEffect_SameEffect : P2 K mg "SameEffect" "SameEffect" true
  k_SameEffect_TooMany : P2 K mg "SameEffect" "TooMany" false
  d_is_whole : Df K mg "is_whole" s_is_whole
  d_is_within : Df K mg "is_within" s_is_within
  d_is_listed : Df K mg "is_listed" s_is_listed
  d_is_couple : Df K mg "is_couple" s_is_couple
  d_is_kind : Df K mg "is_kind" s_is_kind
  d_is_kinds : Df K mg "is_kinds" s_is_kinds
  d_is_run : Df K mg "is_run" s_is_run
  d_is_sequence : Df K mg "is_sequence" s_is_sequence
  d_is_state : Df K mg "is_state" s_is_state
  d_checked_runs : Df K mg "checked_runs" s_checked_runs
  d_checked_short_runs : Df K mg "checked_short_runs" s_checked_short_runs
  d_check_kind : Df K mg "check_kind" s_check_kind
  d_check_kinds : Df K mg "check_kinds" s_check_kinds
  d_checked_state : Df K mg "checked_state" s_checked_state
  d_length_of : Df K mg "length_of" s_length_of
  d_items_of : Df K mg "items_of" s_items_of
  d_waiting_number : Df K mg "waiting_number" s_waiting_number
  d_state_with : Df K mg "state_with" s_state_with
  d_ending_from : Df K mg "ending_from" s_ending_from
  d_endings_of : Df K mg "endings_of" s_endings_of
  d_shift_of : Df K mg "shift_of" s_shift_of
  d_effects_up_to : Df K mg "effects_up_to" s_effects_up_to
  d_other_kind : Df K mg "other_kind" s_other_kind
  d_three_letters : Df K mg "three_letters" s_three_letters
  d_first_difference : Df K mg "first_difference" s_first_difference
  d_is_effects : Df K mg "is_effects" s_is_effects
  d_is_state_of : Df K mg "is_state_of" s_is_state_of
  d_effect_of : Df K mg "effect_of" s_effect_of
  d_effect_on : Df K mg "effect_on" s_effect_on
  d_have_same_effect : Df K mg "have_same_effect" s_have_same_effect
  d_state_that_differs : Df K mg "state_that_differs" s_state_that_differs
  d_states_before : Df K mg "states_before" s_states_before
  d_law_reel : Df K mg "_law_reel" s_law_reel
  d_law_draw : Df K mg "_law_draw" s_law_draw
  d_law_kind_of : Df K mg "_law_kind_of" s_law_kind_of
  d_law_bad : Df K mg "_law_bad" s_law_bad
  d_law_error : Df K mg "_law_error" s_law_error
  d_law_rows : Df K mg "_law_rows" s_law_rows
theorem Top.law {P : Program} {w : World} {K : PySem.W.Frag} {mg : Str → Option Value} (Y : Top K mg) {f : Addr} {fd : FuncData} (F : Fun K "law" "law" s_law f fd) (base : Heap) : FnC P w K mg base f fd ["script"] (sp_law K) := by
  have T := Y.T
  have q_InvalidSequence : ∀ n, n ∈ six ++ (oddA ++ oddB) → P2 K mg "InvalidSequence" n (decide (n = "InvalidSequence")) := by
    intro n hn
    simp only [six, oddA, oddB, List.cons_append, List.nil_append, List.mem_cons, List.not_mem_nil, or_false] at hn
    rcases hn with rfl | rfl | rfl | rfl | rfl | rfl | rfl | rfl | rfl | rfl | rfl | rfl | rfl | rfl | rfl | rfl | rfl | rfl
    · exact Y.k_InvalidSequence_InvalidSequence
    · exact Y.k_InvalidSequence_InvalidState
    · exact Y.k_InvalidSequence_InvalidPosition
    · exact Y.k_InvalidSequence_InvalidNumber
    · exact Y.k_InvalidSequence_InvalidItems
    · exact Y.k_InvalidSequence_TooLong
    · exact Y.k_InvalidSequence_Contradiction
    · exact Y.k_InvalidSequence_Impossible
    · exact Y.k_InvalidSequence_InvalidCommand
    · exact Y.k_InvalidSequence_InvalidCounts
    · exact Y.k_InvalidSequence_InvalidEffects
    · exact Y.k_InvalidSequence_InvalidKind
    · exact Y.k_InvalidSequence_InvalidKinds
    · exact Y.k_InvalidSequence_InvalidRecord
    · exact Y.k_InvalidSequence_InvalidText
    · exact Y.k_InvalidSequence_NothingToUndo
    · exact Y.k_InvalidSequence_SameEffect
    · exact Y.k_InvalidSequence_TooMany
  obtain ⟨F_InvalidSequence, X_InvalidSequence⟩ := clsF_of Y.p_InvalidSequence q_InvalidSequence
  have q_TooLong : ∀ n, n ∈ six ++ (oddA ++ oddB) → P2 K mg "TooLong" n (decide (n = "TooLong")) := by
    intro n hn
    simp only [six, oddA, oddB, List.cons_append, List.nil_append, List.mem_cons, List.not_mem_nil, or_false] at hn
    rcases hn with rfl | rfl | rfl | rfl | rfl | rfl | rfl | rfl | rfl | rfl | rfl | rfl | rfl | rfl | rfl | rfl | rfl | rfl
    · exact Y.k_TooLong_InvalidSequence
    · exact Y.k_TooLong_InvalidState
    · exact Y.k_TooLong_InvalidPosition
    · exact Y.k_TooLong_InvalidNumber
    · exact Y.k_TooLong_InvalidItems
    · exact Y.k_TooLong_TooLong
    · exact Y.k_TooLong_Contradiction
    · exact Y.k_TooLong_Impossible
    · exact Y.k_TooLong_InvalidCommand
    · exact Y.k_TooLong_InvalidCounts
    · exact Y.k_TooLong_InvalidEffects
    · exact Y.k_TooLong_InvalidKind
    · exact Y.k_TooLong_InvalidKinds
    · exact Y.k_TooLong_InvalidRecord
    · exact Y.k_TooLong_InvalidText
    · exact Y.k_TooLong_NothingToUndo
    · exact Y.k_TooLong_SameEffect
    · exact Y.k_TooLong_TooMany
  obtain ⟨F_TooLong, X_TooLong⟩ := clsF_of Y.p_TooLong q_TooLong
  have q_InvalidKind : ∀ n, n ∈ six ++ (oddA ++ oddB) → P2 K mg "InvalidKind" n (decide (n = "InvalidKind")) := by
    intro n hn
    simp only [six, oddA, oddB, List.cons_append, List.nil_append, List.mem_cons, List.not_mem_nil, or_false] at hn
    rcases hn with rfl | rfl | rfl | rfl | rfl | rfl | rfl | rfl | rfl | rfl | rfl | rfl | rfl | rfl | rfl | rfl | rfl | rfl
    · exact Y.k_InvalidKind_InvalidSequence
    · exact Y.k_InvalidKind_InvalidState
    · exact Y.k_InvalidKind_InvalidPosition
    · exact Y.k_InvalidKind_InvalidNumber
    · exact Y.k_InvalidKind_InvalidItems
    · exact Y.k_InvalidKind_TooLong
    · exact Y.k_InvalidKind_Contradiction
    · exact Y.k_InvalidKind_Impossible
    · exact Y.k_InvalidKind_InvalidCommand
    · exact Y.k_InvalidKind_InvalidCounts
    · exact Y.k_InvalidKind_InvalidEffects
    · exact Y.k_InvalidKind_InvalidKind
    · exact Y.k_InvalidKind_InvalidKinds
    · exact Y.k_InvalidKind_InvalidRecord
    · exact Y.k_InvalidKind_InvalidText
    · exact Y.k_InvalidKind_NothingToUndo
    · exact Y.k_InvalidKind_SameEffect
    · exact Y.k_InvalidKind_TooMany
  obtain ⟨F_InvalidKind, X_InvalidKind⟩ := clsF_of Y.p_InvalidKind q_InvalidKind
  have q_InvalidEffects : ∀ n, n ∈ six ++ (oddA ++ oddB) → P2 K mg "InvalidEffects" n (decide (n = "InvalidEffects")) := by
    intro n hn
    simp only [six, oddA, oddB, List.cons_append, List.nil_append, List.mem_cons, List.not_mem_nil, or_false] at hn
    rcases hn with rfl | rfl | rfl | rfl | rfl | rfl | rfl | rfl | rfl | rfl | rfl | rfl | rfl | rfl | rfl | rfl | rfl | rfl
    · exact Y.k_InvalidEffects_InvalidSequence
    · exact Y.k_InvalidEffects_InvalidState
    · exact Y.k_InvalidEffects_InvalidPosition
    · exact Y.k_InvalidEffects_InvalidNumber
    · exact Y.k_InvalidEffects_InvalidItems
    · exact Y.k_InvalidEffects_TooLong
    · exact Y.k_InvalidEffects_Contradiction
    · exact Y.k_InvalidEffects_Impossible
    · exact Y.k_InvalidEffects_InvalidCommand
    · exact Y.k_InvalidEffects_InvalidCounts
    · exact Y.k_InvalidEffects_InvalidEffects
    · exact Y.k_InvalidEffects_InvalidKind
    · exact Y.k_InvalidEffects_InvalidKinds
    · exact Y.k_InvalidEffects_InvalidRecord
    · exact Y.k_InvalidEffects_InvalidText
    · exact Y.k_InvalidEffects_NothingToUndo
    · exact Y.k_InvalidEffects_SameEffect
    · exact Y.k_InvalidEffects_TooMany
  obtain ⟨F_InvalidEffects, X_InvalidEffects⟩ := clsF_of Y.p_InvalidEffects q_InvalidEffects
  have q_InvalidState : ∀ n, n ∈ six ++ (oddA ++ oddB) → P2 K mg "InvalidState" n (decide (n = "InvalidState")) := by
    intro n hn
    simp only [six, oddA, oddB, List.cons_append, List.nil_append, List.mem_cons, List.not_mem_nil, or_false] at hn
    rcases hn with rfl | rfl | rfl | rfl | rfl | rfl | rfl | rfl | rfl | rfl | rfl | rfl | rfl | rfl | rfl | rfl | rfl | rfl
    · exact Y.k_InvalidState_InvalidSequence
    · exact Y.k_InvalidState_InvalidState
    · exact Y.k_InvalidState_InvalidPosition
    · exact Y.k_InvalidState_InvalidNumber
    · exact Y.k_InvalidState_InvalidItems
    · exact Y.k_InvalidState_TooLong
    · exact Y.k_InvalidState_Contradiction
    · exact Y.k_InvalidState_Impossible
    · exact Y.k_InvalidState_InvalidCommand
    · exact Y.k_InvalidState_InvalidCounts
    · exact Y.k_InvalidState_InvalidEffects
    · exact Y.k_InvalidState_InvalidKind
    · exact Y.k_InvalidState_InvalidKinds
    · exact Y.k_InvalidState_InvalidRecord
    · exact Y.k_InvalidState_InvalidText
    · exact Y.k_InvalidState_NothingToUndo
    · exact Y.k_InvalidState_SameEffect
    · exact Y.k_InvalidState_TooMany
  obtain ⟨F_InvalidState, X_InvalidState⟩ := clsF_of Y.p_InvalidState q_InvalidState
  have q_InvalidKinds : ∀ n, n ∈ six ++ (oddA ++ oddB) → P2 K mg "InvalidKinds" n (decide (n = "InvalidKinds")) := by
    intro n hn
    simp only [six, oddA, oddB, List.cons_append, List.nil_append, List.mem_cons, List.not_mem_nil, or_false] at hn
    rcases hn with rfl | rfl | rfl | rfl | rfl | rfl | rfl | rfl | rfl | rfl | rfl | rfl | rfl | rfl | rfl | rfl | rfl | rfl
    · exact Y.k_InvalidKinds_InvalidSequence
    · exact Y.k_InvalidKinds_InvalidState
    · exact Y.k_InvalidKinds_InvalidPosition
    · exact Y.k_InvalidKinds_InvalidNumber
    · exact Y.k_InvalidKinds_InvalidItems
    · exact Y.k_InvalidKinds_TooLong
    · exact Y.k_InvalidKinds_Contradiction
    · exact Y.k_InvalidKinds_Impossible
    · exact Y.k_InvalidKinds_InvalidCommand
    · exact Y.k_InvalidKinds_InvalidCounts
    · exact Y.k_InvalidKinds_InvalidEffects
    · exact Y.k_InvalidKinds_InvalidKind
    · exact Y.k_InvalidKinds_InvalidKinds
    · exact Y.k_InvalidKinds_InvalidRecord
    · exact Y.k_InvalidKinds_InvalidText
    · exact Y.k_InvalidKinds_NothingToUndo
    · exact Y.k_InvalidKinds_SameEffect
    · exact Y.k_InvalidKinds_TooMany
  obtain ⟨F_InvalidKinds, X_InvalidKinds⟩ := clsF_of Y.p_InvalidKinds q_InvalidKinds
  have q_SameEffect : ∀ n, n ∈ six ++ (oddA ++ oddB) → P2 K mg "SameEffect" n (decide (n = "SameEffect")) := by
    intro n hn
    simp only [six, oddA, oddB, List.cons_append, List.nil_append, List.mem_cons, List.not_mem_nil, or_false] at hn
    rcases hn with rfl | rfl | rfl | rfl | rfl | rfl | rfl | rfl | rfl | rfl | rfl | rfl | rfl | rfl | rfl | rfl | rfl | rfl
    · exact Y.k_SameEffect_InvalidSequence
    · exact Y.k_SameEffect_InvalidState
    · exact Y.k_SameEffect_InvalidPosition
    · exact Y.k_SameEffect_InvalidNumber
    · exact Y.k_SameEffect_InvalidItems
    · exact Y.k_SameEffect_TooLong
    · exact Y.k_SameEffect_Contradiction
    · exact Y.k_SameEffect_Impossible
    · exact Y.k_SameEffect_InvalidCommand
    · exact Y.k_SameEffect_InvalidCounts
    · exact Y.k_SameEffect_InvalidEffects
    · exact Y.k_SameEffect_InvalidKind
    · exact Y.k_SameEffect_InvalidKinds
    · exact Y.k_SameEffect_InvalidRecord
    · exact Y.k_SameEffect_InvalidText
    · exact Y.k_SameEffect_NothingToUndo
    · exact Y.k_SameEffect_SameEffect
    · exact Y.k_SameEffect_TooMany
  obtain ⟨F_SameEffect, X_SameEffect⟩ := clsF_of Y.p_SameEffect q_SameEffect
  have CM := cmg_of Y.p_InvalidSequence q_InvalidSequence
  have g_is_whole := ok_is_whole (P := P) (w := w) (base := base) Y.d_is_whole T
  have g_is_within := ok_is_within (P := P) (w := w) (base := base) Y.d_is_within g_is_whole
  have g_is_listed := ok_is_listed (P := P) (w := w) (base := base) Y.d_is_listed T
  have g_is_couple := ok_is_couple (P := P) (w := w) (base := base) Y.d_is_couple T
  have g_is_kind := ok_is_kind (P := P) (w := w) (base := base) Y.d_is_kind T
  have g_is_run := ok_is_run (P := P) (w := w) (base := base) Y.d_is_run T g_is_couple g_is_kind g_is_within
  have g_is_state := ok_is_state (P := P) (w := w) (base := base) Y.d_is_state T g_is_couple g_is_kind g_is_whole
  have g_is_sequence := ok_is_sequence (P := P) (w := w) (base := base) Y.d_is_sequence T g_is_listed g_is_run
  have g_checked_runs := ok_checked_runs (P := P) (w := w) (base := base) Y.d_checked_runs T g_is_sequence
  have g_checked_state := ok_checked_state (P := P) (w := w) (base := base) Y.d_checked_state T g_is_state
  have g_length_of := ok_length_of (P := P) (w := w) (base := base) Y.d_length_of T
  have g_state_with := ok_state_with (P := P) (w := w) (base := base) Y.d_state_with
  have g_checked_short_runs := ok_checked_short_runs (P := P) (w := w) (base := base) Y.d_checked_short_runs T g_checked_runs g_length_of
  have g_items_of := ok_items_of (P := P) (w := w) (base := base) Y.d_items_of T g_checked_short_runs
  have g_law_draw := ok_law_draw (P := P) (w := w) (base := base) Y.d_law_draw T
  have g_law_reel := ok_law_reel (P := P) (w := w) (base := base) Y.d_law_reel T
  have g_is_kinds := ok_is_kinds (P := P) (w := w) (base := base) Y.d_is_kinds T g_is_listed g_is_kind
  have g_check_kinds := ok_check_kinds (P := P) (w := w) (base := base) Y.d_check_kinds g_is_kinds
  have g_waiting_number := ok_waiting_number (P := P) (w := w) (base := base) Y.d_waiting_number
  have g_check_kind := ok_check_kind (P := P) (w := w) (base := base) Y.d_check_kind g_is_kind
  have g_ending_from := ok_ending_from (P := P) (w := w) (base := base) Y.d_ending_from T
  have g_endings_of := ok_endings_of (P := P) (w := w) (base := base) Y.d_endings_of T g_ending_from
  have g_shift_of := ok_shift_of (P := P) (w := w) (base := base) Y.d_shift_of T
  have g_effects_up_to := ok_effects_up_to (P := P) (w := w) (base := base) Y.d_effects_up_to T g_state_with
  have g_is_state_of := ok_is_state_of (P := P) (w := w) (base := base) Y.d_is_state_of g_is_state
  have g_is_effects := ok_is_effects (P := P) (w := w) (base := base) Y.d_is_effects T g_is_listed g_is_state g_is_state_of
  have g_effect_of := ok_effect_of (P := P) (w := w) (base := base) Y.d_effect_of T g_items_of g_check_kind g_endings_of g_effects_up_to g_shift_of g_state_with
  have g_effect_on := ok_effect_on (P := P) (w := w) (base := base) Y.d_effect_on T g_check_kind g_is_effects g_is_state_of g_waiting_number g_checked_state g_state_with
  have g_states_before := ok_states_before (P := P) (w := w) (base := base) Y.d_states_before T g_items_of g_checked_state g_check_kinds g_endings_of g_effects_up_to g_shift_of
  have g_three_letters := ok_three_letters (P := P) (w := w) (base := base) Y.d_three_letters T
  have g_other_kind := ok_other_kind (P := P) (w := w) (base := base) Y.d_other_kind g_three_letters
  have g_first_difference := ok_first_difference (P := P) (w := w) (base := base) Y.d_first_difference T g_endings_of g_effects_up_to g_other_kind g_state_with
  have gD_is_whole := okD_is_whole (P := P) (w := w) (base := base) Y.d_is_whole T
  have gD_is_within := okD_is_within (P := P) (w := w) (base := base) Y.d_is_within gD_is_whole
  have gD_is_listed := okD_is_listed (P := P) (w := w) (base := base) Y.d_is_listed T
  have gD_is_couple := okD_is_couple (P := P) (w := w) (base := base) Y.d_is_couple T
  have gD_is_kind := okD_is_kind (P := P) (w := w) (base := base) Y.d_is_kind T
  have gD_is_run := okD_is_run (P := P) (w := w) (base := base) Y.d_is_run T gD_is_couple gD_is_kind gD_is_within
  have gD_is_state := okD_is_state (P := P) (w := w) (base := base) Y.d_is_state T gD_is_couple gD_is_kind gD_is_whole
  have gD_is_sequence := okD_is_sequence (P := P) (w := w) (base := base) Y.d_is_sequence T gD_is_listed gD_is_run
  have gX_checked_state := okX_checked_state (P := P) (w := w) (base := base) Y.d_checked_state T X_InvalidState gD_is_state
  have gX_checked_runs := okX_checked_runs (P := P) (w := w) (base := base) Y.d_checked_runs T X_InvalidSequence gD_is_sequence
  have gX_check_kind := okX_check_kind (P := P) (w := w) (base := base) Y.d_check_kind X_InvalidKind gD_is_kind
  have gD_is_kinds := okD_is_kinds (P := P) (w := w) (base := base) Y.d_is_kinds T gD_is_listed gD_is_kind
  have gX_check_kinds := okX_check_kinds (P := P) (w := w) (base := base) Y.d_check_kinds X_InvalidKinds gD_is_kinds
  have gX_checked_short_runs := okX_checked_short_runs (P := P) (w := w) (base := base) Y.d_checked_short_runs T X_TooLong gX_checked_runs g_length_of
  have gX_items_of := okX_items_of (P := P) (w := w) (base := base) Y.d_items_of T gX_checked_short_runs
  have gX_effect_of := okX_effect_of (P := P) (w := w) (base := base) Y.d_effect_of T g_items_of gX_items_of gX_check_kind g_endings_of g_effects_up_to g_shift_of g_state_with
  have gD_is_state_of := okD_is_state_of (P := P) (w := w) (base := base) Y.d_is_state_of gD_is_state
  have gD_is_effects := okD_is_effects (P := P) (w := w) (base := base) Y.d_is_effects T gD_is_listed gD_is_state gD_is_state_of
  have gX_effect_on := okX_effect_on (P := P) (w := w) (base := base) Y.d_effect_on T X_InvalidEffects X_InvalidState gX_check_kind gD_is_effects gD_is_state_of g_waiting_number g_checked_state g_state_with gX_checked_state
  have g_have_same_effect := ok_have_same_effect (P := P) (w := w) (base := base) Y.d_have_same_effect g_items_of g_first_difference
  have gX_have_same_effect := okX_have_same_effect (P := P) (w := w) (base := base) Y.d_have_same_effect g_items_of gX_items_of g_first_difference
  have gX_state_that_differs := okX_state_that_differs (P := P) (w := w) (base := base) Y.d_state_that_differs X_SameEffect g_items_of gX_items_of g_first_difference
  have gX_states_before := okX_states_before (P := P) (w := w) (base := base) Y.d_states_before T g_items_of gX_items_of gX_checked_state gX_check_kinds g_endings_of g_effects_up_to g_shift_of
  have g_law_kind_of := ok_law_kind_of (P := P) (w := w) (base := base) Y.d_law_kind_of T CM
  have g_law_bad := ok_law_bad (P := P) (w := w) (base := base) Y.d_law_bad T g_law_draw
  have g_law_error := ok_law_error (P := P) (w := w) (base := base) Y.d_law_error T CM F_InvalidSequence F_TooLong F_InvalidKind F_InvalidEffects F_InvalidState F_InvalidKinds F_SameEffect g_law_kind_of g_effect_of gX_effect_of g_effect_on gX_effect_on g_have_same_effect gX_have_same_effect gX_state_that_differs g_states_before gX_states_before
  have g_law_rows := ok_law_rows (P := P) (w := w) (base := base) Y.d_law_rows T g_law_draw g_law_bad
  exact fn_law F T g_law_reel g_law_rows g_law_error
theorem all_mk {P : Program} {w : World} {K : PySem.W.Frag} {h : Heap} {mg : Str → Option Value} {fa f : Addr} {od an : Option Addr} {sl : Array (Option Value)} {oc kV dc pm cd ct : Value} (X : K.In h) (G : h.Ns mainGlobals mg) (hfa : mg "law" = some (.ref fa)) (a : PySem.W.nsIn K mainGlobals "law" = some (some (.ref f)))
    (l : K.lookup f = some ⟨oc, od, .func (PySem.W.fnOf "law" "law" (defArgs s_law) (defBody s_law) (defScope s_law) .none kV dc pm an cd ct), sl⟩) (c : PySem.W.codeIn K cd "law" = true) (k : PySem.W.keepIn K (.ref f) = true) (Y : Top K mg) :
    ∃ fd : FuncData, (∀ (s : Shared) (v : Value), BindsTo s fd ⟨[v], []⟩ [("script", v)]) ∧ ∀ base : Heap, K.In base → base.Ns mainGlobals mg → FnC P w K mg base fa fd ["script"] (sp_law K) := by
  have e := hfa.symm.trans (PySem.W.mg_of X G a)
  cases e
  exact ⟨_, fun s v => .of_eq rfl, fun base _ _ => Y.law (fun_mk (st := s_law) l c k) base⟩
end UP
open PySem PySem.W PyProof.Rows
set_option maxHeartbeats 0 in
theorem PySem.Challenge.cw_unlikepairs_k20_effect_errors_holds : PySem.Challenge.rw_unlikepairs_k20_effect_errors.Holds := by
  w_on; o_law; k_head; (case hw => w_witness2)
  k_fill
  refine UP.walkC (l := PySem.Challenge.rw_unlikepairs_k20_effect_errors) (n := 63) (x := "script") (sp := fun w => UP.sp_law _) rfl (by decide) rfl (fun w h Y => PySem.W.kIn_of Y) ?F (fun _ _ a ns hl hS => ⟨a, ns, rfl, hS, hl, fun _ => rfl⟩)
  case F =>
    intro w mg fa h KX G hmg
    refine' UP.all_mk KX G hmg ?a ?l ?c ?k ?Y
    (case a => k_is); (case l => k_is); (case c => k_is); (case k => k_is)
    case Y =>
      constructor
      · constructor
        · refine' PySem.W.mg_none_of KX G ?z; (case z => k_is)
        · refine' PySem.W.mg_none_of KX G ?z; (case z => k_is)
        · refine' PySem.W.mg_none_of KX G ?z; (case z => k_is)
        · refine' PySem.W.mg_none_of KX G ?z; (case z => k_is)
        · refine' PySem.W.mg_none_of KX G ?z; (case z => k_is)
        · refine' PySem.W.mg_none_of KX G ?z; (case z => k_is)
        · refine' PySem.W.mg_none_of KX G ?z; (case z => k_is)
        · refine' PySem.W.mg_none_of KX G ?z; (case z => k_is)
        · refine' PySem.W.mg_none_of KX G ?z; (case z => k_is)
        · refine' PySem.W.mg_none_of KX G ?z; (case z => k_is)
        · refine' PySem.W.mg_none_of KX G ?z; (case z => k_is)
        · refine' PySem.W.mg_none_of KX G ?z; (case z => k_is)
        · refine' PySem.W.mg_none_of KX G ?z; (case z => k_is)
        · refine' PySem.W.mg_none_of KX G ?z; (case z => k_is)
        · refine' PySem.W.mg_none_of KX G ?z; (case z => k_is)
        · refine' PySem.W.mg_none_of KX G ?z; (case z => k_is)
        · refine' PySem.W.mg_none_of KX G ?z; (case z => k_is)
        · refine' PySem.W.mg_none_of KX G ?z; (case z => k_is)
        · refine' PySem.W.mg_none_of KX G ?z; (case z => k_is)
        · refine' PySem.W.mg_none_of KX G ?z; (case z => k_is)
        · refine' PySem.W.mg_none_of KX G ?z; (case z => k_is)
        · refine' PySem.W.mg_none_of KX G ?z; (case z => k_is)
        · refine' UP.cst_mkS KX G ?z; (case z => k_is)
        · refine' UP.cst_mk KX G ?z; (case z => k_is)
        · refine' UP.cst_mk KX G ?z; (case z => k_is)
        · refine' UP.cst_mk KX G ?z; (case z => k_is)
        · refine' UP.cst_mk KX G ?z; (case z => k_is)
        · refine' UP.cst_mk KX G ?z; (case z => k_is)
        · refine' UP.cst_mk KX G ?z; (case z => k_is)
      · refine' UP.p1_mk KX G ?a ?b ?x ?k ?bs ?t ?e1 ?e2 ?e3 ?e4 ?e5 ?e6 ?e7 ?m ?k1 ?k2; (case a => k_is); (case b => k_is); (case x => first | k_exc | k_is); (case k => k_is); (case bs => k_is); (case t => k_is); (case e1 => k_is); (case e2 => k_is); (case e3 => k_is); (case e4 => k_is); (case e5 => k_is); (case e6 => k_is); (case e7 => k_is); (case m => kts_exm); (case k1 => kit_is); (case k2 => kit_is)
      · refine' UP.p2_mk KX G ?a ?b ?k; (case a => k_is); (case b => k_is); (case k => kit_is)
      · refine' UP.p2_mk KX G ?a ?b ?k; (case a => k_is); (case b => k_is); (case k => kit_is)
      · refine' UP.p2_mk KX G ?a ?b ?k; (case a => k_is); (case b => k_is); (case k => kit_is)
      · refine' UP.p2_mk KX G ?a ?b ?k; (case a => k_is); (case b => k_is); (case k => kit_is)
      · refine' UP.p2_mk KX G ?a ?b ?k; (case a => k_is); (case b => k_is); (case k => kit_is)
      · refine' UP.p2_mk KX G ?a ?b ?k; (case a => k_is); (case b => k_is); (case k => kit_is)
      · refine' UP.p2_mk KX G ?a ?b ?k; (case a => k_is); (case b => k_is); (case k => kit_is)
      · refine' UP.p2_mk KX G ?a ?b ?k; (case a => k_is); (case b => k_is); (case k => kit_is)
      · refine' UP.p2_mk KX G ?a ?b ?k; (case a => k_is); (case b => k_is); (case k => kit_is)
      · refine' UP.p2_mk KX G ?a ?b ?k; (case a => k_is); (case b => k_is); (case k => kit_is)
      · refine' UP.p2_mk KX G ?a ?b ?k; (case a => k_is); (case b => k_is); (case k => kit_is)
      · refine' UP.p2_mk KX G ?a ?b ?k; (case a => k_is); (case b => k_is); (case k => kit_is)
      · refine' UP.p2_mk KX G ?a ?b ?k; (case a => k_is); (case b => k_is); (case k => kit_is)
      · refine' UP.p2_mk KX G ?a ?b ?k; (case a => k_is); (case b => k_is); (case k => kit_is)
      · refine' UP.p2_mk KX G ?a ?b ?k; (case a => k_is); (case b => k_is); (case k => kit_is)
      · refine' UP.p2_mk KX G ?a ?b ?k; (case a => k_is); (case b => k_is); (case k => kit_is)
      · refine' UP.p2_mk KX G ?a ?b ?k; (case a => k_is); (case b => k_is); (case k => kit_is)
      · refine' UP.p2_mk KX G ?a ?b ?k; (case a => k_is); (case b => k_is); (case k => kit_is)
      · refine' UP.p1_mk KX G ?a ?b ?x ?k ?bs ?t ?e1 ?e2 ?e3 ?e4 ?e5 ?e6 ?e7 ?m ?k1 ?k2; (case a => k_is); (case b => k_is); (case x => first | k_exc | k_is); (case k => k_is); (case bs => k_is); (case t => k_is); (case e1 => k_is); (case e2 => k_is); (case e3 => k_is); (case e4 => k_is); (case e5 => k_is); (case e6 => k_is); (case e7 => k_is); (case m => kts_exm); (case k1 => kit_is); (case k2 => kit_is)
      · refine' UP.p2_mk KX G ?a ?b ?k; (case a => k_is); (case b => k_is); (case k => kit_is)
      · refine' UP.p2_mk KX G ?a ?b ?k; (case a => k_is); (case b => k_is); (case k => kit_is)
      · refine' UP.p2_mk KX G ?a ?b ?k; (case a => k_is); (case b => k_is); (case k => kit_is)
      · refine' UP.p2_mk KX G ?a ?b ?k; (case a => k_is); (case b => k_is); (case k => kit_is)
      · refine' UP.p2_mk KX G ?a ?b ?k; (case a => k_is); (case b => k_is); (case k => kit_is)
      · refine' UP.p2_mk KX G ?a ?b ?k; (case a => k_is); (case b => k_is); (case k => kit_is)
      · refine' UP.p2_mk KX G ?a ?b ?k; (case a => k_is); (case b => k_is); (case k => kit_is)
      · refine' UP.p2_mk KX G ?a ?b ?k; (case a => k_is); (case b => k_is); (case k => kit_is)
      · refine' UP.p2_mk KX G ?a ?b ?k; (case a => k_is); (case b => k_is); (case k => kit_is)
      · refine' UP.p2_mk KX G ?a ?b ?k; (case a => k_is); (case b => k_is); (case k => kit_is)
      · refine' UP.p2_mk KX G ?a ?b ?k; (case a => k_is); (case b => k_is); (case k => kit_is)
      · refine' UP.p2_mk KX G ?a ?b ?k; (case a => k_is); (case b => k_is); (case k => kit_is)
      · refine' UP.p2_mk KX G ?a ?b ?k; (case a => k_is); (case b => k_is); (case k => kit_is)
      · refine' UP.p2_mk KX G ?a ?b ?k; (case a => k_is); (case b => k_is); (case k => kit_is)
      · refine' UP.p2_mk KX G ?a ?b ?k; (case a => k_is); (case b => k_is); (case k => kit_is)
      · refine' UP.p2_mk KX G ?a ?b ?k; (case a => k_is); (case b => k_is); (case k => kit_is)
      · refine' UP.p2_mk KX G ?a ?b ?k; (case a => k_is); (case b => k_is); (case k => kit_is)
      · refine' UP.p2_mk KX G ?a ?b ?k; (case a => k_is); (case b => k_is); (case k => kit_is)
      · refine' UP.p1_mk KX G ?a ?b ?x ?k ?bs ?t ?e1 ?e2 ?e3 ?e4 ?e5 ?e6 ?e7 ?m ?k1 ?k2; (case a => k_is); (case b => k_is); (case x => first | k_exc | k_is); (case k => k_is); (case bs => k_is); (case t => k_is); (case e1 => k_is); (case e2 => k_is); (case e3 => k_is); (case e4 => k_is); (case e5 => k_is); (case e6 => k_is); (case e7 => k_is); (case m => kts_exm); (case k1 => kit_is); (case k2 => kit_is)
      · refine' UP.p2_mk KX G ?a ?b ?k; (case a => k_is); (case b => k_is); (case k => kit_is)
      · refine' UP.p2_mk KX G ?a ?b ?k; (case a => k_is); (case b => k_is); (case k => kit_is)
      · refine' UP.p2_mk KX G ?a ?b ?k; (case a => k_is); (case b => k_is); (case k => kit_is)
      · refine' UP.p2_mk KX G ?a ?b ?k; (case a => k_is); (case b => k_is); (case k => kit_is)
      · refine' UP.p2_mk KX G ?a ?b ?k; (case a => k_is); (case b => k_is); (case k => kit_is)
      · refine' UP.p2_mk KX G ?a ?b ?k; (case a => k_is); (case b => k_is); (case k => kit_is)
      · refine' UP.p2_mk KX G ?a ?b ?k; (case a => k_is); (case b => k_is); (case k => kit_is)
      · refine' UP.p2_mk KX G ?a ?b ?k; (case a => k_is); (case b => k_is); (case k => kit_is)
      · refine' UP.p2_mk KX G ?a ?b ?k; (case a => k_is); (case b => k_is); (case k => kit_is)
      · refine' UP.p2_mk KX G ?a ?b ?k; (case a => k_is); (case b => k_is); (case k => kit_is)
      · refine' UP.p2_mk KX G ?a ?b ?k; (case a => k_is); (case b => k_is); (case k => kit_is)
      · refine' UP.p2_mk KX G ?a ?b ?k; (case a => k_is); (case b => k_is); (case k => kit_is)
      · refine' UP.p2_mk KX G ?a ?b ?k; (case a => k_is); (case b => k_is); (case k => kit_is)
      · refine' UP.p2_mk KX G ?a ?b ?k; (case a => k_is); (case b => k_is); (case k => kit_is)
      · refine' UP.p2_mk KX G ?a ?b ?k; (case a => k_is); (case b => k_is); (case k => kit_is)
      · refine' UP.p2_mk KX G ?a ?b ?k; (case a => k_is); (case b => k_is); (case k => kit_is)
      · refine' UP.p2_mk KX G ?a ?b ?k; (case a => k_is); (case b => k_is); (case k => kit_is)
      · refine' UP.p2_mk KX G ?a ?b ?k; (case a => k_is); (case b => k_is); (case k => kit_is)
      · refine' UP.p1_mk KX G ?a ?b ?x ?k ?bs ?t ?e1 ?e2 ?e3 ?e4 ?e5 ?e6 ?e7 ?m ?k1 ?k2; (case a => k_is); (case b => k_is); (case x => first | k_exc | k_is); (case k => k_is); (case bs => k_is); (case t => k_is); (case e1 => k_is); (case e2 => k_is); (case e3 => k_is); (case e4 => k_is); (case e5 => k_is); (case e6 => k_is); (case e7 => k_is); (case m => kts_exm); (case k1 => kit_is); (case k2 => kit_is)
      · refine' UP.p2_mk KX G ?a ?b ?k; (case a => k_is); (case b => k_is); (case k => kit_is)
      · refine' UP.p2_mk KX G ?a ?b ?k; (case a => k_is); (case b => k_is); (case k => kit_is)
      · refine' UP.p2_mk KX G ?a ?b ?k; (case a => k_is); (case b => k_is); (case k => kit_is)
      · refine' UP.p2_mk KX G ?a ?b ?k; (case a => k_is); (case b => k_is); (case k => kit_is)
      · refine' UP.p2_mk KX G ?a ?b ?k; (case a => k_is); (case b => k_is); (case k => kit_is)
      · refine' UP.p2_mk KX G ?a ?b ?k; (case a => k_is); (case b => k_is); (case k => kit_is)
      · refine' UP.p2_mk KX G ?a ?b ?k; (case a => k_is); (case b => k_is); (case k => kit_is)
      · refine' UP.p2_mk KX G ?a ?b ?k; (case a => k_is); (case b => k_is); (case k => kit_is)
      · refine' UP.p2_mk KX G ?a ?b ?k; (case a => k_is); (case b => k_is); (case k => kit_is)
      · refine' UP.p2_mk KX G ?a ?b ?k; (case a => k_is); (case b => k_is); (case k => kit_is)
      · refine' UP.p2_mk KX G ?a ?b ?k; (case a => k_is); (case b => k_is); (case k => kit_is)
      · refine' UP.p2_mk KX G ?a ?b ?k; (case a => k_is); (case b => k_is); (case k => kit_is)
      · refine' UP.p2_mk KX G ?a ?b ?k; (case a => k_is); (case b => k_is); (case k => kit_is)
      · refine' UP.p2_mk KX G ?a ?b ?k; (case a => k_is); (case b => k_is); (case k => kit_is)
      · refine' UP.p2_mk KX G ?a ?b ?k; (case a => k_is); (case b => k_is); (case k => kit_is)
      · refine' UP.p2_mk KX G ?a ?b ?k; (case a => k_is); (case b => k_is); (case k => kit_is)
      · refine' UP.p2_mk KX G ?a ?b ?k; (case a => k_is); (case b => k_is); (case k => kit_is)
      · refine' UP.p2_mk KX G ?a ?b ?k; (case a => k_is); (case b => k_is); (case k => kit_is)
      · refine' UP.p1_mk KX G ?a ?b ?x ?k ?bs ?t ?e1 ?e2 ?e3 ?e4 ?e5 ?e6 ?e7 ?m ?k1 ?k2; (case a => k_is); (case b => k_is); (case x => first | k_exc | k_is); (case k => k_is); (case bs => k_is); (case t => k_is); (case e1 => k_is); (case e2 => k_is); (case e3 => k_is); (case e4 => k_is); (case e5 => k_is); (case e6 => k_is); (case e7 => k_is); (case m => kts_exm); (case k1 => kit_is); (case k2 => kit_is)
      · refine' UP.p2_mk KX G ?a ?b ?k; (case a => k_is); (case b => k_is); (case k => kit_is)
      · refine' UP.p2_mk KX G ?a ?b ?k; (case a => k_is); (case b => k_is); (case k => kit_is)
      · refine' UP.p2_mk KX G ?a ?b ?k; (case a => k_is); (case b => k_is); (case k => kit_is)
      · refine' UP.p2_mk KX G ?a ?b ?k; (case a => k_is); (case b => k_is); (case k => kit_is)
      · refine' UP.p2_mk KX G ?a ?b ?k; (case a => k_is); (case b => k_is); (case k => kit_is)
      · refine' UP.p2_mk KX G ?a ?b ?k; (case a => k_is); (case b => k_is); (case k => kit_is)
      · refine' UP.p2_mk KX G ?a ?b ?k; (case a => k_is); (case b => k_is); (case k => kit_is)
      · refine' UP.p2_mk KX G ?a ?b ?k; (case a => k_is); (case b => k_is); (case k => kit_is)
      · refine' UP.p2_mk KX G ?a ?b ?k; (case a => k_is); (case b => k_is); (case k => kit_is)
      · refine' UP.p2_mk KX G ?a ?b ?k; (case a => k_is); (case b => k_is); (case k => kit_is)
      · refine' UP.p2_mk KX G ?a ?b ?k; (case a => k_is); (case b => k_is); (case k => kit_is)
      · refine' UP.p2_mk KX G ?a ?b ?k; (case a => k_is); (case b => k_is); (case k => kit_is)
      · refine' UP.p2_mk KX G ?a ?b ?k; (case a => k_is); (case b => k_is); (case k => kit_is)
      · refine' UP.p2_mk KX G ?a ?b ?k; (case a => k_is); (case b => k_is); (case k => kit_is)
      · refine' UP.p2_mk KX G ?a ?b ?k; (case a => k_is); (case b => k_is); (case k => kit_is)
      · refine' UP.p2_mk KX G ?a ?b ?k; (case a => k_is); (case b => k_is); (case k => kit_is)
      · refine' UP.p2_mk KX G ?a ?b ?k; (case a => k_is); (case b => k_is); (case k => kit_is)
      · refine' UP.p2_mk KX G ?a ?b ?k; (case a => k_is); (case b => k_is); (case k => kit_is)
      · refine' UP.p1_mk KX G ?a ?b ?x ?k ?bs ?t ?e1 ?e2 ?e3 ?e4 ?e5 ?e6 ?e7 ?m ?k1 ?k2; (case a => k_is); (case b => k_is); (case x => first | k_exc | k_is); (case k => k_is); (case bs => k_is); (case t => k_is); (case e1 => k_is); (case e2 => k_is); (case e3 => k_is); (case e4 => k_is); (case e5 => k_is); (case e6 => k_is); (case e7 => k_is); (case m => kts_exm); (case k1 => kit_is); (case k2 => kit_is)
      · refine' UP.p2_mk KX G ?a ?b ?k; (case a => k_is); (case b => k_is); (case k => kit_is)
      · refine' UP.p2_mk KX G ?a ?b ?k; (case a => k_is); (case b => k_is); (case k => kit_is)
      · refine' UP.p2_mk KX G ?a ?b ?k; (case a => k_is); (case b => k_is); (case k => kit_is)
      · refine' UP.p2_mk KX G ?a ?b ?k; (case a => k_is); (case b => k_is); (case k => kit_is)
      · refine' UP.p2_mk KX G ?a ?b ?k; (case a => k_is); (case b => k_is); (case k => kit_is)
      · refine' UP.p2_mk KX G ?a ?b ?k; (case a => k_is); (case b => k_is); (case k => kit_is)
      · refine' UP.p2_mk KX G ?a ?b ?k; (case a => k_is); (case b => k_is); (case k => kit_is)
      · refine' UP.p2_mk KX G ?a ?b ?k; (case a => k_is); (case b => k_is); (case k => kit_is)
      · refine' UP.p2_mk KX G ?a ?b ?k; (case a => k_is); (case b => k_is); (case k => kit_is)
      · refine' UP.p2_mk KX G ?a ?b ?k; (case a => k_is); (case b => k_is); (case k => kit_is)
      · refine' UP.p2_mk KX G ?a ?b ?k; (case a => k_is); (case b => k_is); (case k => kit_is)
      · refine' UP.p2_mk KX G ?a ?b ?k; (case a => k_is); (case b => k_is); (case k => kit_is)
      · refine' UP.p2_mk KX G ?a ?b ?k; (case a => k_is); (case b => k_is); (case k => kit_is)
      · refine' UP.p2_mk KX G ?a ?b ?k; (case a => k_is); (case b => k_is); (case k => kit_is)
      · refine' UP.p2_mk KX G ?a ?b ?k; (case a => k_is); (case b => k_is); (case k => kit_is)
      · refine' UP.p2_mk KX G ?a ?b ?k; (case a => k_is); (case b => k_is); (case k => kit_is)
      · refine' UP.p2_mk KX G ?a ?b ?k; (case a => k_is); (case b => k_is); (case k => kit_is)
      · refine' UP.p2_mk KX G ?a ?b ?k; (case a => k_is); (case b => k_is); (case k => kit_is)
      · refine' UP.p1_mk KX G ?a ?b ?x ?k ?bs ?t ?e1 ?e2 ?e3 ?e4 ?e5 ?e6 ?e7 ?m ?k1 ?k2; (case a => k_is); (case b => k_is); (case x => first | k_exc | k_is); (case k => k_is); (case bs => k_is); (case t => k_is); (case e1 => k_is); (case e2 => k_is); (case e3 => k_is); (case e4 => k_is); (case e5 => k_is); (case e6 => k_is); (case e7 => k_is); (case m => kts_exm); (case k1 => kit_is); (case k2 => kit_is)
      · refine' UP.p2_mk KX G ?a ?b ?k; (case a => k_is); (case b => k_is); (case k => kit_is)
      · refine' UP.p2_mk KX G ?a ?b ?k; (case a => k_is); (case b => k_is); (case k => kit_is)
      · refine' UP.p2_mk KX G ?a ?b ?k; (case a => k_is); (case b => k_is); (case k => kit_is)
      · refine' UP.p2_mk KX G ?a ?b ?k; (case a => k_is); (case b => k_is); (case k => kit_is)
      · refine' UP.p2_mk KX G ?a ?b ?k; (case a => k_is); (case b => k_is); (case k => kit_is)
      · refine' UP.p2_mk KX G ?a ?b ?k; (case a => k_is); (case b => k_is); (case k => kit_is)
      · refine' UP.p2_mk KX G ?a ?b ?k; (case a => k_is); (case b => k_is); (case k => kit_is)
      · refine' UP.p2_mk KX G ?a ?b ?k; (case a => k_is); (case b => k_is); (case k => kit_is)
      · refine' UP.p2_mk KX G ?a ?b ?k; (case a => k_is); (case b => k_is); (case k => kit_is)
      · refine' UP.p2_mk KX G ?a ?b ?k; (case a => k_is); (case b => k_is); (case k => kit_is)
      · refine' UP.p2_mk KX G ?a ?b ?k; (case a => k_is); (case b => k_is); (case k => kit_is)
      · refine' UP.p2_mk KX G ?a ?b ?k; (case a => k_is); (case b => k_is); (case k => kit_is)
      · refine' UP.p2_mk KX G ?a ?b ?k; (case a => k_is); (case b => k_is); (case k => kit_is)
      · refine' UP.p2_mk KX G ?a ?b ?k; (case a => k_is); (case b => k_is); (case k => kit_is)
      · refine' UP.p2_mk KX G ?a ?b ?k; (case a => k_is); (case b => k_is); (case k => kit_is)
      · refine' UP.p2_mk KX G ?a ?b ?k; (case a => k_is); (case b => k_is); (case k => kit_is)
      · refine' UP.p2_mk KX G ?a ?b ?k; (case a => k_is); (case b => k_is); (case k => kit_is)
      · refine' UP.p2_mk KX G ?a ?b ?k; (case a => k_is); (case b => k_is); (case k => kit_is)
      · refine' UP.df_mk KX G ?a ?l ?c ?k; (case a => k_is); (case l => k_is); (case c => k_is); (case k => k_is)
      · refine' UP.df_mk KX G ?a ?l ?c ?k; (case a => k_is); (case l => k_is); (case c => k_is); (case k => k_is)
      · refine' UP.df_mk KX G ?a ?l ?c ?k; (case a => k_is); (case l => k_is); (case c => k_is); (case k => k_is)
      · refine' UP.df_mk KX G ?a ?l ?c ?k; (case a => k_is); (case l => k_is); (case c => k_is); (case k => k_is)
      · refine' UP.df_mk KX G ?a ?l ?c ?k; (case a => k_is); (case l => k_is); (case c => k_is); (case k => k_is)
      · refine' UP.df_mk KX G ?a ?l ?c ?k; (case a => k_is); (case l => k_is); (case c => k_is); (case k => k_is)
      · refine' UP.df_mk KX G ?a ?l ?c ?k; (case a => k_is); (case l => k_is); (case c => k_is); (case k => k_is)
      · refine' UP.df_mk KX G ?a ?l ?c ?k; (case a => k_is); (case l => k_is); (case c => k_is); (case k => k_is)
      · refine' UP.df_mk KX G ?a ?l ?c ?k; (case a => k_is); (case l => k_is); (case c => k_is); (case k => k_is)
      · refine' UP.df_mk KX G ?a ?l ?c ?k; (case a => k_is); (case l => k_is); (case c => k_is); (case k => k_is)
      · refine' UP.df_mk KX G ?a ?l ?c ?k; (case a => k_is); (case l => k_is); (case c => k_is); (case k => k_is)
      · refine' UP.df_mk KX G ?a ?l ?c ?k; (case a => k_is); (case l => k_is); (case c => k_is); (case k => k_is)
      · refine' UP.df_mk KX G ?a ?l ?c ?k; (case a => k_is); (case l => k_is); (case c => k_is); (case k => k_is)
      · refine' UP.df_mk KX G ?a ?l ?c ?k; (case a => k_is); (case l => k_is); (case c => k_is); (case k => k_is)
      · refine' UP.df_mk KX G ?a ?l ?c ?k; (case a => k_is); (case l => k_is); (case c => k_is); (case k => k_is)
      · refine' UP.df_mk KX G ?a ?l ?c ?k; (case a => k_is); (case l => k_is); (case c => k_is); (case k => k_is)
      · refine' UP.df_mk KX G ?a ?l ?c ?k; (case a => k_is); (case l => k_is); (case c => k_is); (case k => k_is)
      · refine' UP.df_mk KX G ?a ?l ?c ?k; (case a => k_is); (case l => k_is); (case c => k_is); (case k => k_is)
      · refine' UP.df_mk KX G ?a ?l ?c ?k; (case a => k_is); (case l => k_is); (case c => k_is); (case k => k_is)
      · refine' UP.df_mk KX G ?a ?l ?c ?k; (case a => k_is); (case l => k_is); (case c => k_is); (case k => k_is)
      · refine' UP.df_mk KX G ?a ?l ?c ?k; (case a => k_is); (case l => k_is); (case c => k_is); (case k => k_is)
      · refine' UP.df_mk KX G ?a ?l ?c ?k; (case a => k_is); (case l => k_is); (case c => k_is); (case k => k_is)
      · refine' UP.df_mk KX G ?a ?l ?c ?k; (case a => k_is); (case l => k_is); (case c => k_is); (case k => k_is)
      · refine' UP.df_mk KX G ?a ?l ?c ?k; (case a => k_is); (case l => k_is); (case c => k_is); (case k => k_is)
      · refine' UP.df_mk KX G ?a ?l ?c ?k; (case a => k_is); (case l => k_is); (case c => k_is); (case k => k_is)
      · refine' UP.df_mk KX G ?a ?l ?c ?k; (case a => k_is); (case l => k_is); (case c => k_is); (case k => k_is)
      · refine' UP.df_mk KX G ?a ?l ?c ?k; (case a => k_is); (case l => k_is); (case c => k_is); (case k => k_is)
      · refine' UP.df_mk KX G ?a ?l ?c ?k; (case a => k_is); (case l => k_is); (case c => k_is); (case k => k_is)
      · refine' UP.df_mk KX G ?a ?l ?c ?k; (case a => k_is); (case l => k_is); (case c => k_is); (case k => k_is)
      · refine' UP.df_mk KX G ?a ?l ?c ?k; (case a => k_is); (case l => k_is); (case c => k_is); (case k => k_is)
      · refine' UP.df_mk KX G ?a ?l ?c ?k; (case a => k_is); (case l => k_is); (case c => k_is); (case k => k_is)
      · refine' UP.df_mk KX G ?a ?l ?c ?k; (case a => k_is); (case l => k_is); (case c => k_is); (case k => k_is)
      · refine' UP.df_mk KX G ?a ?l ?c ?k; (case a => k_is); (case l => k_is); (case c => k_is); (case k => k_is)
      · refine' UP.df_mk KX G ?a ?l ?c ?k; (case a => k_is); (case l => k_is); (case c => k_is); (case k => k_is)
      · refine' UP.df_mk KX G ?a ?l ?c ?k; (case a => k_is); (case l => k_is); (case c => k_is); (case k => k_is)
      · refine' UP.df_mk KX G ?a ?l ?c ?k; (case a => k_is); (case l => k_is); (case c => k_is); (case k => k_is)
      · refine' UP.df_mk KX G ?a ?l ?c ?k; (case a => k_is); (case l => k_is); (case c => k_is); (case k => k_is)
      · refine' UP.df_mk KX G ?a ?l ?c ?k; (case a => k_is); (case l => k_is); (case c => k_is); (case k => k_is)
