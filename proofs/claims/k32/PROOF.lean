import PyProof.Rows.All
import Wide.All
import OpenK.AllK
import Wide.FinOn
import HandS.ForMost
import HandS.Wide
import HandS.IsInst
import HandS.Defaults
import HandS.Codes
import HandS.Style
import PyProof.ReprRoads
import PyProof.ReprLen
import HandS.Zip
import HandS.NoneIn
import HandS.TupAny
import KE.KDictList
import HandS.ListItems
import HandS.More
import HandS.DictTup
import HandS.SortRule
import HandS.SortOrd
import KE.KDictWalk
import HandS.SortInts
import HandS.Deep
import PySem.Challenge.RW_unlikepairs_k32_reasons_against_states
set_option Elab.async false
set_option linter.all false
set_option maxRecDepth 100000
set_option maxHeartbeats 4000000
namespace UP
open PySem PySem.Spec PyProof.Rows L2

/-! ### a def that keeps a promise, by its name -/
section
variable (P : Program) (w : World) (K : PySem.W.Frag) (mg : Str → Option Value) (base : Heap)
def Has (k : Nat) (x : Str) (ps : List Str) (sp : Sp) : Prop :=
  ∃ f fd, mg x = some (.ref f) ∧ PySem.W.keepIn K (.ref f) = true ∧ Binds K fd ps [] ∧ FnOk P w K mg base CX0 k f fd ps sp
def Df (x : Str) (st : Stmt) : Prop := ∃ f fd, mg x = some (.ref f) ∧ Fun K x x st f fd
end
theorem Df.of {K : PySem.W.Frag} {mg : Str → Option Value} {x : Str} {st : Stmt} {f : Addr} {fd : FuncData} (g : mg x = some (.ref f)) (F : Fun K x x st f fd) : Df K mg x st := ⟨f, fd, g, F⟩
section
variable {P : Program} {w : World} {K : PySem.W.Frag} {mg : Str → Option Value} {base : Heap}
theorem has_of {x : Str} {st : Stmt} {ps N : List Str} {k : Nat} {sp : Sp} (D : Df K mg x st) (S : FnScope N ps (defScope st))
    (hb : ∀ (kV doc pm : Value) (an : Option Addr) (cdv ct : Value) (us : List Value), us.length = ps.length → bindArgs (PySem.W.fnOf x x (defArgs st) (defBody st) (defScope st) .none kV doc pm an cdv ct) ⟨us, []⟩ = pure (ps.zip us))
    (len : ∀ vs H Q E, sp vs H Q E → vs.length = ps.length)
    (body : ∀ (f : Addr) (cdv : Value) (A : Around) (outer : List Env) (s : Shared) (H : Hp) (vs : List V) (Q : VK) (E : XK), Room k (A.deeper (envOfC x (defScope st) s.heap.objs.size f cdv)) → sp vs H Q E →
      ∃ t, PSs (cxOf CX0 P w K mg base N x (defScope st) f cdv A outer s H E).nox (defBody st) t ∧ t { nx := fun _ H' => Q .non H', rt := Q } (start N vs) H) :
    Has P w K mg base (k + 1) x ps sp := by
  obtain ⟨f, fd, g, F⟩ := D
  exact ⟨f, fd, g, F.kp, F.binds hb, F.ok S len fun cdv A outer s H vs Q E hr h => body f cdv A outer s H vs Q E hr h⟩
theorem Has.weak {x : Str} {ps : List Str} {k : Nat} {sp sp' : Sp} (h : Has P w K mg base k x ps sp) (e : sp = sp') : Has P w K mg base k x ps sp' := e ▸ h
end
section
variable {X : Cx}
theorem pe_callH {k : Nat} {x : Str} {ps : List Str} {sp : Sp} {p pos : Pos} {e : Expr} {es : List Expr} {t : TA} (G : Has X.prog X.w X.K X.mg X.base k x ps sp) (hr : Room k X.A) (hg : Gl X x) (ha : PA X (e :: es) t)
    (hdb : (x == ("__debug__" : Str)) = false := by decide) (he : starEach (e :: es) X.env = (false, eval e X.env) :: starEach es X.env := by rfl) (hpl : (backTo pos (starEach es X.env)).any (·.1) = false := by rfl) :
    PE X (.Call (.Name x p) (e :: es) [] pos) (tCall sp [] E0 t) := by
  obtain ⟨f, fd, g, kp, b, F⟩ := G
  exact pe_call F hr hg g kp b .nil pass0 ha hdb he hpl
theorem pe_glI {x : Str} {i : Int} {pos : Pos} (h : ∃ t, X.mg x = some (.int i t)) (hg : Gl X x) (hd : (x == ("__debug__" : Str)) = false := by decide) : PE X (.Name x pos) (tC (.int i)) := by
  obtain ⟨t, h⟩ := h
  exact pe_glob hg h ⟨t, rfl⟩ hd
end

/-! ### heaps -/
theorem same_upd {H : Hp} {p : Addr} {o : HO} (h : H p = none) : Same H (upd H p o) := fun b x e => by
  rw [upd_ne (ne_of_none e h)]
  exact e
/-- all but the object at sp is as it was -/
def But (sp : Addr) (H H' : Hp) : Prop := ∀ b o, b ≠ sp → H b = some o → H' b = some o
theorem Same.but {sp : Addr} {H H' : Hp} (h : Same H H') : But sp H H' := fun b o _ e => h b o e
theorem But.trans {sp : Addr} {H H1 H2 : Hp} (a : But sp H H1) (b : But sp H1 H2) : But sp H H2 := fun c o n e => b c o n (a c o n e)
theorem But.refl {sp : Addr} {H : Hp} : But sp H H := fun _ _ _ e => e
theorem but_upd {sp : Addr} {H : Hp} {o : HO} : But sp H (upd H sp o) := fun b x n e => by
  rw [upd_ne n]
  exact e
theorem small {n : Nat} (h : n ≤ 1000000) : n < sizeLine := Nat.lt_of_le_of_lt h (by decide)
theorem smallE {n : Nat} (h : n ≤ 1000000) : n ≤ sizeLine := Nat.le_of_lt (small h)

/-! ### runs and states -/
abbrev Run := Str × Int
def RunV (H : Hp) (v : V) (r : Run) : Prop := ∃ t, v = .ref t ∧ H t = some (.tup [.str r.1, .int r.2])
def Runs (H : Hp) (a : Addr) (rs : List Run) : Prop := ∃ xs, H a = some (.lst xs) ∧ Paired (RunV H) xs rs
def StV (H : Hp) (v : V) : Option Run → Prop
  | none => v = .non
  | some r => RunV H v r
theorem RunV.same {H H' : Hp} {v : V} {r : Run} (s : Same H H') (h : RunV H v r) : RunV H' v r := by
  obtain ⟨t, e, h⟩ := h
  exact ⟨t, e, s _ _ h⟩
theorem Paired.len {α β : Type} {F : α → β → Prop} : ∀ {l₁ : List α} {l₂ : List β}, Paired F l₁ l₂ → l₁.length = l₂.length
  | _, _, .nil => rfl
  | _, _, .cons _ t => congrArg Nat.succ (Paired.len t)
theorem Paired.at {α β : Type} {F : α → β → Prop} : ∀ {l₁ : List α} {l₂ : List β} {i : Nat} {x : α}, Paired F l₁ l₂ → l₁[i]? = some x → ∃ y, l₂[i]? = some y ∧ F x y
  | _, _, _, _, .nil, h => by simp at h
  | _, _, 0, _, .cons h _, e => by
    simp only [List.getElem?_cons_zero, Option.some.injEq] at e
    subst e
    exact ⟨_, by simp, h⟩
  | _, _, i + 1, _, .cons _ t, e => by
    simp only [List.getElem?_cons_succ] at e ⊢
    exact Paired.at t e
theorem Paired.at' {α β : Type} {F : α → β → Prop} : ∀ {l₁ : List α} {l₂ : List β} {i : Nat} {y : β}, Paired F l₁ l₂ → l₂[i]? = some y → ∃ x, l₁[i]? = some x ∧ F x y
  | _, _, _, _, .nil, h => by simp at h
  | _, _, 0, _, .cons h _, e => by
    simp only [List.getElem?_cons_zero, Option.some.injEq] at e
    subst e
    exact ⟨_, by simp, h⟩
  | _, _, i + 1, _, .cons _ t, e => by
    simp only [List.getElem?_cons_succ] at e ⊢
    exact Paired.at' t e
theorem Paired.imp {α β : Type} {F G : α → β → Prop} (f : ∀ a b, F a b → G a b) : ∀ {l₁ : List α} {l₂ : List β}, Paired F l₁ l₂ → Paired G l₁ l₂
  | _, _, .nil => .nil
  | _, _, .cons h t => .cons (f _ _ h) (Paired.imp f t)
theorem Paired.app {α β : Type} {F : α → β → Prop} : ∀ {l₁ m₁ : List α} {l₂ m₂ : List β}, Paired F l₁ l₂ → Paired F m₁ m₂ → Paired F (l₁ ++ m₁) (l₂ ++ m₂)
  | _, _, _, _, .nil, h => h
  | _, _, _, _, .cons h t, k => .cons h (Paired.app t k)
theorem Paired.dropp {α β : Type} {F : α → β → Prop} : ∀ {l₁ : List α} {l₂ : List β} (n : Nat), Paired F l₁ l₂ → Paired F (l₁.drop n) (l₂.drop n)
  | _, _, 0, h => h
  | _, _, n + 1, .nil => .nil
  | _, _, n + 1, .cons _ t => by
    simp only [List.drop_succ_cons]
    exact Paired.dropp n t
theorem Paired.takep {α β : Type} {F : α → β → Prop} : ∀ {l₁ : List α} {l₂ : List β} (n : Nat), Paired F l₁ l₂ → Paired F (l₁.take n) (l₂.take n)
  | _, _, 0, h => by simp only [List.take_zero]; exact .nil
  | _, _, n + 1, .nil => .nil
  | _, _, n + 1, .cons h t => by
    simp only [List.take_succ_cons]
    exact .cons h (Paired.takep n t)
theorem Runs.same {H H' : Hp} {a : Addr} {rs : List Run} (s : Same H H') (h : Runs H a rs) : Runs H' a rs := by
  obtain ⟨xs, e, p⟩ := h
  exact ⟨xs, s _ _ e, Paired.imp (fun _ _ => RunV.same s) p⟩
theorem StV.same {H H' : Hp} {v : V} {st : Option Run} (s : Same H H') (h : StV H v st) : StV H' v st := by
  cases st with
  | none => exact h
  | some r => exact RunV.same s h
/-- the spring: a list of three ints -/
def Spr (H : Hp) (sp : Addr) : Prop := ∃ d s c : Int, H sp = some (.lst [.int d, .int s, .int c]) ∧ 0 ≤ d ∧ d.natAbs < 2 ^ 20000 ∧ 0 ≤ s ∧ s < 2305843009213693951
theorem RunV.but {H H' : Hp} {sp : Addr} {v : V} {r : Run} (z : Spr H sp) (s : But sp H H') (h : RunV H v r) : RunV H' v r := by
  obtain ⟨t, e, h⟩ := h
  obtain ⟨_, _, _, hs, _⟩ := z
  exact ⟨t, e, s _ _ (ne_of h hs (by intro q; cases q)) h⟩
theorem Runs.ne {H : Hp} {sp a : Addr} {rs : List Run} (z : Spr H sp) (h : Runs H a rs) : a ≠ sp := by
  obtain ⟨xs, e, p⟩ := h
  obtain ⟨d, s, c, hs, _⟩ := z
  refine ne_of e hs fun q => ?_
  have q := HO.lst.inj q
  subst q
  cases p with
  | cons h _ =>
    obtain ⟨t, e, _⟩ := h
    cases e
theorem Runs.but {H H' : Hp} {sp a : Addr} {rs : List Run} (z : Spr H sp) (s : But sp H H') (h : Runs H a rs) : Runs H' a rs := by
  have n := Runs.ne z h
  obtain ⟨xs, e, p⟩ := h
  exact ⟨xs, s _ _ n e, Paired.imp (fun _ _ => RunV.but z s) p⟩
theorem StV.but {H H' : Hp} {sp : Addr} {v : V} {st : Option Run} (z : Spr H sp) (s : But sp H H') (h : StV H v st) : StV H' v st := by
  cases st with
  | none => exact h
  | some r => exact RunV.but z s h
theorem Spr.same {H H' : Hp} {sp : Addr} (z : Spr H sp) (s : Same H H') : Spr H' sp := by
  obtain ⟨d, e, c, hs, r⟩ := z
  exact ⟨d, e, c, s _ _ hs, r⟩
def KindOk (s : Str) : Prop := 1 ≤ s.length ∧ s.length ≤ 8 ∧ ∀ c ∈ s.cps.toList, 97 ≤ c ∧ c ≤ 122
def RunOk (r : Run) : Prop := KindOk r.1 ∧ 1 ≤ r.2 ∧ r.2 ≤ 1000000000000000000000000000000
def Alt (rs : List Run) : Prop := ∀ (i : Nat) (x y : Run), rs[i]? = some x → rs[i + 1]? = some y → x.1 ≠ y.1
def SeqOk (rs : List Run) : Prop := rs.length ≤ 400 ∧ (∀ r ∈ rs, RunOk r) ∧ Alt rs
end UP

set_option Elab.async false
set_option linter.all false
set_option maxRecDepth 100000
set_option maxHeartbeats 4000000
namespace UP
open PySem PySem.Spec PyProof.Rows L2
/-! ### repr of plain data, where no other repr is under way -/
def rRepr (K : PySem.W.Frag) : List V → Hp → VK → Prop := fun xs H Q => ∃ (a : Addr) (d : PyData), xs = [.ref a] ∧ Dp K H (.ref a) d ∧ d.showable = true ∧ SeqAt.shaped d = true ∧ d.shown.length ≤ sizeLine ∧ Q (.str d.shown) H
theorem call_reprD {X : Cx} (hg : X.A.guards = some []) (hu : X.A.units + 70 < cLine) : CallR X (.builtin "repr") (rRepr X.K) := by
  intro pins s σ H xs us Q I r h
  obtain ⟨a, d, rfl, dp, sh, sp, sz, q⟩ := h
  obtain ⟨u, rfl, ru⟩ := vals1 r
  cases (show u = Value.ref a from ru)
  obtain ⟨as, rd⟩ := Dp.reads I d (.ref a) (.ref a) dp rfl
  have dd := SeqAt.depth_of_shaped sp
  refine repr_of_reads' rd sh (PyData.noDict_hsm (PyData.hasDict_of_canLay d (SeqAt.canLay_of_shaped sp))) hg (by omega) (fun _ _ e => e) (fun h' u tk hk => ?_) sz
  exact ⟨.str d.shown, H, I.kept (t' := tk) hk, ⟨u, rfl⟩, q⟩
/-! ### the law's own call, around it nothing -/
structure FnC (P : Program) (w : World) (K : PySem.W.Frag) (mg : Str → Option Value) (base : Heap) (f : Addr) (fd : FuncData) (ps : List Str) (sp : Sp) : Prop where
  go : ∀ (out : List Env) (s : Shared) (H : Hp) (args : Args) (us : List Value) (vs : List V) (Q : VK) (E : XK), Env0 P w K mg base callerA out s H → BindsTo s fd args (ps.zip us) → Vals vs us → sp vs H Q E →
    codeAny (model P w) callerA (.call (.ref f) args) (CR CX0 out P w H s Q E) s
theorem callerA_room : Room 8 callerA := ⟨rfl, by decide, by decide⟩
section
variable {P : Program} {w : World} {K : PySem.W.Frag} {mg : Str → Option Value} {base : Heap}
theorem fnC_of {x : Str} {st : Stmt} {f : Addr} {fd : FuncData} {ps N : List Str} {sp : Sp} (F : Fun K x x st f fd) (S : FnScope N ps (defScope st)) (len : ∀ vs H Q E, sp vs H Q E → vs.length = ps.length)
    (body : ∀ (cdv : Value) (out : List Env) (s : Shared) (H : Hp) (vs : List V) (Q : VK) (E : XK), Room 7 (callerA.deeper (envOfC x (defScope st) s.heap.objs.size f cdv)) → sp vs H Q E →
      ∃ t, PSs (cxOf CX0 P w K mg base N x (defScope st) f cdv callerA out s H E).nox (defBody st) t ∧ t { nx := fun _ H' => Q .non H', rt := Q } (start N vs) H) : FnC P w K mg base f fd ps sp := by
  obtain ⟨oc, od, kV, doc, pm, an, cdv, ct, osl, rfl, lk, hcd⟩ := F.ex
  refine ⟨fun out s H args us vs Q E e0 hb rv hsp => ?_⟩
  have inS : K.In s.heap := e0.mod.kin.keeps fun b o z => (e0.bs b o z).1
  have noL : s.heap.NoLimit := e0.mod.nolimit.keeps fun b o z => (e0.bs b o z).1
  have kinds : ∀ y ∈ ps.zip us, (defScope st).names.lookup y.1 = some .local ∨ ((defScope st).names.lookup y.1 = some .cell ∧ ((cellsFrom (s.heap.objs.size + 1) (defScope st).names []).lookup y.1).isSome = true) := by
    intro y hy
    rcases S.par y.1 (List.of_mem_zip (a := y.1) (b := y.2) hy).1 with z | z
    · exact Or.inl z
    · exact Or.inr ⟨z, PySem.W.cellsFrom_some _ _ _ (Or.inl z)⟩
  refine codeAny_call_function callerA_room.depth (inS _ _ lk) rfl S.co S.gen rfl (PySem.W.codeRec_of inS hcd) (hb _ _ _ _ ?_)
  refine wpAny_newFunctionEnv_cells S.kind kinds fun env he s1 inC => ?_
  subst he
  refine ⟨noL.keeps inC.toInCall.keep, codeAny_func ?_⟩
  obtain ⟨t, ht0, hq⟩ := body cdv out s H vs Q E (callerA_room.deeper _) hsp
  have ht := PSs.nox ht0
  have I0 : Inv (cxOf CX0 P w K mg base N x (defScope st) f cdv callerA out s H E) [] (start N vs) H s1 := inv_start S rfl e0 (len _ _ _ _ hsp) rv inC
  refine wpAny_mono (ht.run [] s1 (start N vs) H _ I0 hq) (fun fl s2 h2 => ?_) fun _ _ z => z
  cases fl with
  | next =>
    obtain ⟨σ2, H2, J, q2⟩ := h2
    exact ⟨V.non, H2, J.os, J.bare, J.base, J.hok, rfl, q2⟩
  | ret u =>
    obtain ⟨v, σ2, H2, J, rv2, q2⟩ := h2
    exact ⟨v, H2, J.os, J.bare, J.base, J.hok, rv2, q2⟩
  | brk =>
    obtain ⟨_, _, _, z⟩ := h2
    exact z.elim
  | cont =>
    obtain ⟨_, _, _, z⟩ := h2
    exact z.elim
end
/-- the heap that holds the script alone, locked -/
def oneH (a : Addr) (o : Obj) (xs : List V) : Hp := fun b => if b = a then some (.frz o (.lst xs)) else none
theorem run_law {P : Program} {w : World} {K : PySem.W.Frag} {mg mb : Str → Option Value} {fa a : Addr} {fd : FuncData} {x : Str} {sp : Sp} {s : Shared} {vs : List Value} {ns : List Int}
    (kx : K.In s.heap) (gns : s.heap.Ns mainGlobals mg) (bns : s.heap.Ns builtinsNs mb) (bb : ∀ y : Str, y ≠ "__name__" → mb y = bootBuiltins y) (nl : s.heap.NoLimit) (gens : s.gens = #[])
    (ob : s.heap.get? a = some { cls := .type "list", data := .seq vs.toArray }) (hin : IntsAre vs ns) (len : ns.length ≤ sizeLine) (F : ∀ base : Heap, K.In base → base.Ns mainGlobals mg → FnC P w K mg base fa fd [x] sp)
    (bind : ∀ (s : Shared) (u : Value), BindsTo s fd ⟨[u], []⟩ [(x, u)]) (hsp : ∀ H : Hp, SqL K H a (ns.map V.int) → sp [.ref a] H (fun v _ => v = .bl true) fun _ _ _ => False) :
    codeAny (model P w) callerA (.call (.ref fa) ⟨[.ref a], []⟩) (fun r s' => r = .ok (.ret (.bool true)) ∧ OldK s.heap s'.heap ∧ s'.os = s.os ∧ AllBare s'.gens) s := by
  have rel := vals_ints hin
  have step : ∀ H : Hp, (H = (fun _ => none) ∨ (H = oneH a { cls := .type "list", data := .seq vs.toArray } (ns.map V.int) ∧ K.lookup a = none)) → SqL K H a (ns.map V.int) → HOk P w H s.heap →
      codeAny (model P w) callerA (.call (.ref fa) ⟨[.ref a], []⟩) (fun r s' => r = .ok (.ret (.bool true)) ∧ OldK s.heap s'.heap ∧ s'.os = s.os ∧ AllBare s'.gens) s := by
    intro H hH hS hok
    have only : ∀ b u, H b = some u → b = a ∧ u = .frz { cls := .type "list", data := .seq vs.toArray } (.lst (ns.map V.int)) ∧ K.lookup a = none := by
      intro b u e
      rcases hH with z | ⟨z, z2⟩
      · rw [z] at e
        cases e
      · rw [z] at e
        by_cases hb : b = a
        · have e := (if_pos hb).symm.trans e
          cases e
          exact ⟨hb, rfl, z2⟩
        · have e := (if_neg hb).symm.trans e
          cases e
    have free : ∀ {b : Addr} {o : Obj}, s.heap.get? b = some o → (b = a → False) → (hidT s.heap H).get? b = some o := by
      intro b o e n
      refine hidT_get e ?_
      cases q : H b with
      | none => rfl
      | some u => exact (n (only b u q).1).elim
    have nss : ∀ {b : Addr} {m : Str → Option Value}, s.heap.Ns b m → (hidT s.heap H).Ns b m := by
      intro b m ⟨o, es, ep, e, d, r⟩
      refine ⟨o, es, ep, free e fun z => ?_, d, r⟩
      subst z
      rw [ob] at e
      cases e
      cases d
    have kb : K.In (hidT s.heap H) := by
      intro b o e
      refine hidT_get (kx b o e) ?_
      cases q : H b with
      | none => rfl
      | some u =>
        obtain ⟨z1, _, z2⟩ := only b u q
        rw [z1, z2] at e
        cases e
    have md : Mod K mg (hidT s.heap H) := ⟨kb, nss gns, ⟨mb, nss bns, bb⟩, by obtain ⟨mc, h1, h2⟩ := nl; exact ⟨mc, nss h1, h2⟩⟩
    have env : Env0 P w K mg (hidT s.heap H) callerA [] s H := ⟨rfl, md, fun b o e => of_hidT e, Nat.le_of_eq (hidT_size _ _), trivial, (fun b hb => by cases hb), hok, .of_eq gens⟩
    refine codeAny_mono ((F _ kb (nss gns)).go [] s H ⟨[.ref a], []⟩ [.ref a] [.ref a] _ _ env (bind s (.ref a)) (.cons rfl .nil) (hsp H hS)) fun r s' h => ?_
    cases r with
    | error e => exact h.elim
    | ok fl =>
      cases fl with
      | next => exact h.elim
      | brk => exact h.elim
      | cont => exact h.elim
      | ret u =>
        obtain ⟨v, H', o1, o2, un, hok', rv, q⟩ := h
        have q : v = .bl true := q
        subst q
        cases (show u = Value.bool true from rv)
        refine ⟨rfl, OldK.of_keep fun b o e => ?_, o1, o2⟩
        cases q : H b with
        | none => exact un.keep b o e q (fun z => by cases z) (fun z => by cases z)
        | some u =>
          obtain ⟨_, z, _⟩ := only b u q
          subst z
          obtain ⟨e1, _⟩ := hok b _ q
          obtain ⟨e2, _⟩ := hok' b _ (un.frzs b _ _ q)
          rw [e] at e1
          cases e1
          exact e2
  cases hk : K.lookup a with
  | some o =>
    have e := kx a o hk
    rw [ob] at e
    cases e
    refine step (fun _ => none) (.inl rfl) (.inr ⟨_, vs.toArray, _, hk, rfl, rfl, rfl, ?_, by simpa using rel⟩) fun b u z => by cases z
    rw [List.size_toArray, hin.length]
    exact len
  | none =>
    have at_a : oneH a { cls := .type "list", data := .seq vs.toArray } (ns.map V.int) a = some (.frz { cls := .type "list", data := .seq vs.toArray } (.lst (ns.map V.int))) := if_pos rfl
    refine step _ (.inr ⟨rfl, hk⟩) (.inl (.inr ⟨_, at_a⟩)) fun b u z => ?_
    by_cases hb : b = a
    · subst hb
      rw [at_a] at z
      cases z
      exact ⟨ob, by rw [List.length_map]; exact len, vs, _, rel, ob⟩
    · have z := (if_neg hb).symm.trans z
      cases z
theorem walkC {l : PySem.W.OpenLaw} {n : Nat} {q : Program} {loose : List Str} {XP : (Str → Option Value) → Heap → Prop} {YP : World → Heap → Prop} {d : DefRec} {K : Params → PySem.W.Frag} {sp : World → Sp} {x : Str}
    (hn : l.most = some n) (n2 : n ≤ sizeLine) (df : d.params.defaults = []) (hY : ∀ (w : World) (h : Heap), YP w h → (K w.params).In h)
    (F : ∀ (w : World) (mg : Str → Option Value) (fa : Addr) (h : Heap), (K w.params).In h → h.Ns mainGlobals mg → mg d.name = some (.ref fa) →
      ∃ fd : FuncData, (∀ (s : Shared) (u : Value), BindsTo s fd ⟨[u], []⟩ [(x, u)]) ∧ ∀ base : Heap, (K w.params).In base → base.Ns mainGlobals mg → FnC l.prog w (K w.params) mg base fa fd [x] (sp w))
    (hsp : ∀ (w : World) (H : Hp) (a : Addr) (ns : List Int), ns.length ≤ n → SqL (K w.params) H a (ns.map V.int) → sp w [.ref a] H (fun v _ => v = .bl true) fun _ _ _ => False) :
    PySem.W.WalkO q loose XP YP l.row.toRowW d [] (fun f vs => PySem.call f vs) := by
  refine Att.attach_call hn df fun w s₀ s mg mb fa o pm cd doc a vs ns G Y ho hd hcd hmg hobj hints hlen hg => ?_
  have kx := hY w _ Y
  obtain ⟨fd, hb, hF⟩ := F w mg fa _ kx G.T.g hmg
  exact run_law kx G.T.g G.T.b G.T.builtins G.T.nolimit hg hobj hints (Nat.le_trans hlen n2) hF hb fun H hS => hsp w H a ns hlen hS
end UP

set_option Elab.async false
set_option linter.all false
set_option maxRecDepth 100000
set_option maxHeartbeats 4000000
namespace UP
open PySem PySem.Spec PyProof.Rows L2
/-! ### lists or tuples -/
def Sq2 (H : Hp) (a : Addr) (xs : List V) : Prop := H a = some (.lst xs) ∨ H a = some (.tup xs)
theorem Sq2.same {H H' : Hp} {a : Addr} {xs : List V} (s : Same H H') (h : Sq2 H a xs) : Sq2 H' a xs := h.elim (fun z => .inl (s _ _ z)) (fun z => .inr (s _ _ z))
/-- a walk over the items xs, from the heap H on -/
structure Wk (J : It) (H : Hp) (xs : List V) : Prop where
  go : ∀ i H', Same H H' → i < xs.length → J.go i H'
  stop : ∀ H', Same H H' → J.stop xs.length H'
  yld : ∀ i x H' H'', Same H H' → J.yld i H' x H'' → H'' = H' ∧ xs[i]? = some x
theorem wk_list {K : PySem.W.Frag} {H : Hp} {a : Addr} {xs : List V} (h : H a = some (.lst xs)) : Wk (Itl K a) H xs :=
  ⟨fun i H' s hi => ⟨xs, xs[i], .of (s _ _ h), List.getElem?_eq_getElem hi⟩, fun H' s => ⟨xs, .of (s _ _ h), Nat.le_refl _⟩, fun i x H' H'' s y => ⟨y.1, y.2 xs (.of (s _ _ h))⟩⟩
theorem wk_tup {K : PySem.W.Frag} {H : Hp} {a : Addr} {xs : List V} (h : H a = some (.tup xs)) : Wk (Itt K a) H xs :=
  ⟨fun i H' s hi => ⟨xs, xs[i], .of (s _ _ h), List.getElem?_eq_getElem hi⟩, fun H' s => ⟨xs, .of (s _ _ h), Nat.le_refl _⟩, fun i x H' H'' s y => ⟨y.1, y.2 xs (.of (s _ _ h))⟩⟩
def iSeqV (i : Nat) : TI := fun σ H R => ∃ a xs, σ[i]? = some (some (.ref a)) ∧ Sq2 H a xs ∧ ∀ J, Wk J H xs → R J H
section
variable {X : Cx}
theorem pi_seqV (i : Nat) {x : Str} {pos : Pos} {tg : Expr} (hN : X.N[i]? = some x := by rfl) (hv : Vis X.env.scope x := by first | exact Or.inl rfl | exact Or.inr (Or.inl rfl) | exact Or.inr (Or.inr rfl)) (hd : (x == ("__debug__" : Str)) = false := by decide)
    (hc : (x == ("__classdict__" : Str)) = false := by decide) : PI X tg (.Name x pos) (iSeqV i) := by
  refine ⟨fun pins s σ H R I hw => ?_⟩
  obtain ⟨a, xs, e, h, k⟩ := hw
  rcases h with h | h
  · exact (pi_list (pe_var hN hv hd hc)).run pins s σ H R I ⟨_, e, a, rfl, ⟨xs, .of h⟩, k _ (wk_list h)⟩
  · exact (pi_tup (pe_var hN hv hd hc)).run pins s σ H R I ⟨_, e, a, rfl, ⟨xs, .of h⟩, k _ (wk_tup h)⟩
def gAny (n : Nat) (t : TGs) : TG := fun v σ H Q => ∃ a xs, v = .ref a ∧ Sq2 H a xs ∧ xs.length = n ∧ t xs σ H Q
theorem pg_any {es : List Expr} {k n : Nat} {t : TGs} {pos : Pos} (hc : X.calm = true) (h : PGs X es t) (hn : (assignEach es X.env).length = n := by rfl) (hst : (assignEach es X.env).findIdx? (fun z => z.1) = none := by rfl) : PG X (.Tuple es k pos) (gAny n t) := by
  refine ⟨fun pins s σ H v u Q I r hw => ?_⟩
  obtain ⟨a, xs, e, hx, hl, hw⟩ := hw
  rcases hx with z | z
  · exact (pg_unl hc h hn hst).run pins s σ H v u Q I r ⟨a, xs, e, .of z, hl, hw⟩
  · exact (pg_tup hc h hn hst).run pins s σ H v u Q I r ⟨a, xs, e, .of z, hl, hw⟩
/-- zip(x, x[1:]) -/
structure WkZ (J : It) (H : Hp) (xs : List V) : Prop where
  go : ∀ i H', Same H H' → i + 1 < xs.length → J.go i H'
  stop : ∀ H', Same H H' → J.stop (xs.length - 1) H'
  yld : ∀ i x H' H'', Same H H' → J.yld i H' x H'' → ∃ T x1 x2, x = .ref T ∧ H' T = none ∧ H'' = upd H' T (.tup [x1, x2]) ∧ xs[i]? = some x1 ∧ (i + 1 < xs.length → xs[i + 1]? = some x2)
def iZip1 (i : Nat) : TI := fun σ H R => ∃ a xs, σ[i]? = some (some (.ref a)) ∧ Sq2 H a xs ∧ ∀ J H', Same H H' → WkZ J H' xs → R J H'
theorem cutt_one (xs : List V) : cutV xs (some 1) none = xs.drop 1 := by
  have e : HT.sIx xs.length 0 (some 1) = min 1 xs.length := HT.sIx_nat xs.length 0 1
  unfold cutV
  rw [e, HT.sIx_none]
  cases xs with
  | nil => rfl
  | cons x r =>
    have e1 : min 1 (x :: r).length = 1 := by simp only [List.length_cons]; omega
    rw [e1]
    simp
theorem pi_zip1 {i : Nat} {tg it : Expr} {tl th : TO} (h : PI X tg it (RZ.iZipA X.K (tCons (tVar i) (tCons (tSl (fun x lo hi H Q => rSlL X.K x lo hi H Q ∨ rSlA X.K x lo hi H Q) (tVar i) tl th) tNil))))
    (h1 : ∀ (σ : L2.St) (H : Hp) (Q : Option Int → Hp → Prop), Q (some 1) H → tl σ H Q) (h2 : ∀ (σ : L2.St) (H : Hp) (Q : Option Int → Hp → Prop), Q none H → th σ H Q) : PI X tg it (iZip1 i) := by
  refine ⟨fun pins s σ H R I hw => h.run pins s σ H R I ?_⟩
  obtain ⟨a, xs, e, hx, k⟩ := hw
  refine ⟨_, e, _, e, h1 σ H _ (h2 σ H _ ?_)⟩
  have gn : ∀ j : Nat, (xs.drop 1)[j]? = xs[j + 1]? := fun j => by rw [List.getElem?_drop, Nat.add_comm 1 j]
  rcases hx with hx | hx
  · refine .inl ⟨a, xs, rfl, .of hx, fun c nc => ?_⟩
    have sc : Same H (upd H c (.lst (cutV xs (some 1) none))) := fun b o z => by rw [upd_ne (ne_of_none z nc)]; exact z
    have hc : (upd H c (.lst (cutV xs (some 1) none))) c = some (.lst (xs.drop 1)) := by rw [upd_same, cutt_one]
    refine ⟨a, c, xs, xs.drop 1, rfl, .inl ⟨.of (sc _ _ hx), .of hc, k _ _ sc ⟨fun j H' sj hj => ?_, fun H' sj => ?_, fun j x H' H'' sj y => ?_⟩⟩⟩
    · exact ⟨xs, xs.drop 1, xs[j], xs[j + 1], .of (sj _ _ (sc _ _ hx)), .of (sj _ _ hc), List.getElem?_eq_getElem (by omega), by rw [gn]; exact List.getElem?_eq_getElem hj⟩
    · exact ⟨xs, xs.drop 1, .of (sj _ _ (sc _ _ hx)), .of (sj _ _ hc), .inr (by rw [List.length_drop]; exact Nat.le_refl _)⟩
    · obtain ⟨T, x1, x2, e1, e2, e3, f1, f2⟩ := y
      exact ⟨T, x1, x2, e1, e2, e3, f1 xs (.of (sj _ _ (sc _ _ hx))), fun _ => by rw [← gn]; exact f2 _ (.of (sj _ _ hc))⟩
  · refine .inr ⟨a, xs, rfl, .of hx, fun z => ?_, fun z c nc => ?_⟩
    · have lz : xs.length = 0 := by
        have z1 := z.1
        rw [show HT.sIx xs.length 0 (some 1) = min 1 xs.length from HT.sIx_nat xs.length 0 1] at z1
        omega
      refine ⟨a, a, xs, xs, rfl, .inr ⟨.of hx, .of hx, k _ _ (Same.refl _) ⟨fun j H' sj hj => by omega, fun H' sj => ⟨xs, xs, .of (sj _ _ hx), .of (sj _ _ hx), .inl (by omega)⟩, fun j x H' H'' sj y => ?_⟩⟩⟩
      obtain ⟨T, x1, x2, e1, e2, e3, f1, f2⟩ := y
      exact ⟨T, x1, x2, e1, e2, e3, f1 xs (.of (sj _ _ hx)), fun hj => by omega⟩
    · have sc : Same H (upd H c (.tup (cutV xs (some 1) none))) := fun b o z => by rw [upd_ne (ne_of_none z nc)]; exact z
      have hc : (upd H c (.tup (cutV xs (some 1) none))) c = some (.tup (xs.drop 1)) := by rw [upd_same, cutt_one]
      refine ⟨a, c, xs, xs.drop 1, rfl, .inr ⟨.of (sc _ _ hx), .of hc, k _ _ sc ⟨fun j H' sj hj => ?_, fun H' sj => ?_, fun j x H' H'' sj y => ?_⟩⟩⟩
      · exact ⟨xs, xs.drop 1, xs[j], xs[j + 1], .of (sj _ _ (sc _ _ hx)), .of (sj _ _ hc), List.getElem?_eq_getElem (by omega), by rw [gn]; exact List.getElem?_eq_getElem hj⟩
      · exact ⟨xs, xs.drop 1, .of (sj _ _ (sc _ _ hx)), .of (sj _ _ hc), .inr (by rw [List.length_drop]; exact Nat.le_refl _)⟩
      · obtain ⟨T, x1, x2, e1, e2, e3, f1, f2⟩ := y
        exact ⟨T, x1, x2, e1, e2, e3, f1 xs (.of (sj _ _ (sc _ _ hx))), fun _ => by rw [← gn]; exact f2 _ (.of (sj _ _ hc))⟩
end
/-! ### runs and states, dressed -/
def RunG (H : Hp) (v : V) (r : Run) : Prop := ∃ t, v = .ref t ∧ Sq2 H t [.str r.1, .int r.2]
def RunsG (H : Hp) (v : V) (rs : List Run) : Prop := ∃ a xs, v = .ref a ∧ Sq2 H a xs ∧ Paired (RunG H) xs rs
def StG (H : Hp) (v : V) : Option Run → Prop
  | none => v = .non
  | some r => RunG H v r
theorem RunG.same {H H' : Hp} {v : V} {r : Run} (s : Same H H') (h : RunG H v r) : RunG H' v r := by
  obtain ⟨t, e, h⟩ := h
  exact ⟨t, e, h.same s⟩
theorem RunsG.same {H H' : Hp} {v : V} {rs : List Run} (s : Same H H') (h : RunsG H v rs) : RunsG H' v rs := by
  obtain ⟨a, xs, e, hx, p⟩ := h
  exact ⟨a, xs, e, hx.same s, Paired.imp (fun _ _ => RunG.same s) p⟩
theorem StG.same {H H' : Hp} {v : V} {st : Option Run} (s : Same H H') (h : StG H v st) : StG H' v st := by
  cases st with
  | none => exact h
  | some r => exact RunG.same s h
theorem RunV.dress {H : Hp} {v : V} {r : Run} (h : RunV H v r) : RunG H v r := by
  obtain ⟨t, e, h⟩ := h
  exact ⟨t, e, .inr h⟩
theorem Runs.dress {H : Hp} {a : Addr} {rs : List Run} (h : Runs H a rs) : RunsG H (.ref a) rs := by
  obtain ⟨xs, hx, p⟩ := h
  exact ⟨a, xs, rfl, .inl hx, Paired.imp (fun _ _ => RunV.dress) p⟩
theorem StV.dress {H : Hp} {v : V} {st : Option Run} (h : StV H v st) : StG H v st := by
  cases st with
  | none => exact h
  | some r => exact RunV.dress h
theorem Sq2.but {H H' : Hp} {sp a : Addr} {xs : List V} (z : Spr H sp) (s : But sp H H') (h : Sq2 H a xs) (n : ∀ d e f, xs ≠ [.int d, .int e, .int f]) : Sq2 H' a xs := by
  obtain ⟨d, e, f, hs, _⟩ := z
  rcases h with h | h
  · exact .inl (s _ _ (ne_of h hs fun q => n d e f (HO.lst.inj q)) h)
  · exact .inr (s _ _ (ne_of h hs fun q => by cases q) h)
theorem RunG.but {H H' : Hp} {sp : Addr} {v : V} {r : Run} (z : Spr H sp) (s : But sp H H') (h : RunG H v r) : RunG H' v r := by
  obtain ⟨t, e, h⟩ := h
  exact ⟨t, e, h.but z s fun _ _ _ q => by cases q⟩
theorem RunsG.but {H H' : Hp} {sp : Addr} {v : V} {rs : List Run} (z : Spr H sp) (s : But sp H H') (h : RunsG H v rs) : RunsG H' v rs := by
  obtain ⟨a, xs, e, hx, p⟩ := h
  refine ⟨a, xs, e, hx.but z s fun d _ _ q => ?_, Paired.imp (fun _ _ => RunG.but z s) p⟩
  subst q
  cases p with
  | cons h _ =>
    obtain ⟨_, e, _⟩ := h
    cases e
theorem StG.but {H H' : Hp} {sp : Addr} {v : V} {st : Option Run} (z : Spr H sp) (s : But sp H H') (h : StG H v st) : StG H' v st := by
  cases st with
  | none => exact h
  | some r => exact RunG.but z s h
end UP

set_option Elab.async false
set_option linter.all false
set_option maxRecDepth 100000
set_option maxHeartbeats 4000000
/-! list(d.values()) of a dict by texts or numbers -/
namespace UP
open PySem PySem.Spec PyProof.Rows L2
def tListVals (te : TE) : TE := fun σ H Q => te σ H fun x H1 => ∃ (d : Addr) (kvs : List (L2.Key × V)), x = .ref d ∧ H1 d = some (.dK kvs) ∧ ∀ p, H1 p = none → Q (.ref p) (upd H1 p (.lst (kvs.map fun kv => kv.2)))
theorem vals_kv {kvs : List (L2.Key × V)} {vs : List (L2.Key × Value)} (h : KV kvs vs) : ∀ {us : List Value}, us.length = vs.length → (∀ (j : Nat) (v : Value), us[j]? = some v → ∃ k, vs[j]? = some (k, v)) → Vals (kvs.map fun kv => kv.2) us := by
  induction h with
  | nil =>
    intro us hl _
    cases us with
    | nil => exact .nil
    | cons u t => cases hl
  | cons hd _ ih =>
    intro us hl f
    cases us with
    | nil => cases hl
    | cons u t =>
      obtain ⟨k, e⟩ := f 0 u rfl
      have e := Option.some.inj e
      subst e
      exact .cons hd.2 (ih (Nat.succ.inj hl) fun j v e => f (j + 1) v e)
section
variable {X : Cx} {e : Expr} {te : TE} {p apos cpos pos : Pos}
theorem pe_listVals (hc : X.calm = true) (he : PE X e te) (hg : Gl X "list") (hm : X.mg "list" = none) (hv : bootBuiltins "list" = some (.type "list")) (hbase : attributeBase e "values" X.env (eval e X.env) = eval e X.env := by rfl) (hline : (apos.endLine == cpos.line) = true := by rfl)
    (hs : starEach [.Call (.Attribute e "values" apos) [] [] cpos] X.env = (false, eval (.Call (.Attribute e "values" apos) [] [] cpos) X.env) :: starEach [] X.env := by rfl) :
    PE X (.Call (.Name "list" p) [.Call (.Attribute e "values" apos) [] [] cpos] [] pos) (tListVals te) := by
  refine ⟨fun pins s σ H Q I hq => ?_⟩
  refine wpAny_Call_Name_kw (ld_blt I hg hm hv ?_)
  refine PyProof.Rows.callWith_type1 ?_ hs rfl
  rw [hs]
  show wpAny _ _ (spliced ((false, eval (.Call (.Attribute e "values" apos) [] [] cpos) X.env) :: backTo pos (starEach [] X.env))) _ _ s
  refine Calls.spliced_cons ?_
  refine wpAny_Call_method (T := "dict") (id := "dict.values") hbase rfl hline F.plainAttrs_dict F.slot_dict_values F.type_dict_values (thn (he.run pins s σ H _ I hq) fun u s1 ⟨x, H1, I1, rx, d, kvs, ex, hd, q⟩ => ?_)
  subst ex
  obtain rfl : u = Value.ref d := rx
  obtain ⟨hz, hs0, vs, kv, hdo⟩ := I1.hok d _ hd
  obtain ⟨ep, hat⟩ := hdo.dictAt
  have lk : kvs.length = vs.length := Paired.length kv
  have I2 : Inv X pins σ H1 { s1 with heap := s1.heap.push { cls := .type "dict_values", data := .fields #[.ref d] } } := I1.kept (t' := s1.toks) fun b ob q => Heap.get?_push_of_some _ q
  refine ⟨hdo.typeIs, hdo.mapOf.noDict, ?_⟩
  show wpAny _ _ (callWith cpos (.builtin "dict.values") [.ref d] [] []) _ X.xe s1
  refine method_meetsIn F.slot_dict_values F.entry_dict_values rfl (PySem.evalArgs_none ⟨rfl, hdo.typeIs, F.args_dict_values_1 _, _, meets_dict_values (mixKind X.prog X.w) d hs0, ⟨vs, hdo⟩, ?_⟩)
  refine Calls.spliced_nil ?_
  refine PySem.W.kdl_call (PySem.W.kdl_values (knd := mixKind X.prog X.w) (kvs := vs) (ep := ep)) (I1.ok.hd hc) ⟨⟨_, Heap.get?_push_size _ rfl, rfl, rfl⟩, hat.push _⟩ (by omega) fun h' tk acc c hk hS hacc => ?_
  have hv2 : Vals (kvs.map fun kv => kv.2) acc.toList := vals_kv kv (by rw [Array.length_toList]; exact hacc.1) fun j v e => hacc.2 j v (by rw [← Array.getElem?_toList]; exact e)
  exact ⟨.ref _, _, I2.laid (t' := tk) hk (Nat.le_refl _) (show ObjOk X.prog X.w _ _ _ (.lst (kvs.map fun kv => kv.2)) from ⟨by rw [List.length_map]; exact hz, acc.toList, c, hv2, by rw [Array.toArray_toList]; exact hS⟩), rfl, q _ (I1.hok.fresh (by show s1.heap.objs.size ≤ _; rw [show ({ s1 with heap := s1.heap.push { cls := .type "dict_values", data := .fields #[.ref d] } } : Shared).heap.objs.size = s1.heap.objs.size + 1 from Array.size_push ..]; omega))⟩
end
end UP

set_option Elab.async false
set_option linter.all false
set_option maxRecDepth 100000
set_option maxHeartbeats 4000000
namespace UP
open PySem PySem.Spec PyProof.Rows L2
def topS (i : Nat) : Stmt := PySem.Challenge.pw_unlikepairs_k32_reasons_against_states.main.body.getD i (.Pass ⟨0, 0, 0, 0⟩)
structure Tx (mg : Str → Option Value) : Prop where
  n_isinstance : mg "isinstance" = none
  n_int : mg "int" = none
  n_bool : mg "bool" = none
  n_str : mg "str" = none
  n_list : mg "list" = none
  n_tuple : mg "tuple" = none
  n_len : mg "len" = none
  n_all : mg "all" = none
  n_zip : mg "zip" = none
  n_sum : mg "sum" = none
  n_min : mg "min" = none
  n_max : mg "max" = none
  n_abs : mg "abs" = none
  n_range : mg "range" = none
  n_repr : mg "repr" = none
  n_enumerate : mg "enumerate" = none
  n_any : mg "any" = none
  n_dict : mg "dict" = none
  n_sorted : mg "sorted" = none
  n_set : mg "set" = none
  n_reversed : mg "reversed" = none
  c_MAX_LETTERS : ∃ t, mg "MAX_LETTERS" = some (.int 8 t)
  c_MAX_KINDS : ∃ t, mg "MAX_KINDS" = some (.int 12 t)
  c_MAX_COUNT : ∃ t, mg "MAX_COUNT" = some (.int 1000000000000000000000000000000 t)
section
variable {P : Program} {w : World} {K : PySem.W.Frag} {mg : Str → Option Value} {base : Heap}
/-! is_whole: slots 0:value -/
abbrev s_is_whole : Stmt := topS 8
theorem sc_is_whole : FnScope ["value"] ["value"] (defScope s_is_whole) := ⟨rfl, rfl, rfl, by decide +kernel, rfl, by decide +kernel, by decide +kernel⟩
def sp_is_whole : Sp := fun vs H Q _ => ∃ n : Int, vs = [.int n] ∧ Q (.bl true) H
theorem ok_is_whole (D : Df K mg "is_whole" s_is_whole) (T : Tx mg) : Has P w K mg base 1 "is_whole" ["value"] sp_is_whole := by
  refine has_of D sc_is_whole (fun _ _ _ _ _ _ us hl => match us, hl with | [_], _ => rfl) (fun vs H Q E h => ?_) (fun f cdv A outer s H vs Q E hr h => ?_)
  · obtain ⟨n, rfl, _⟩ := h
    rfl
  · obtain ⟨n, rfl, q⟩ := h
    refine ⟨_, (pss_one (ps_ret (pe_and (pe_callB call_isi (by rfl) T.n_isinstance (by decide +kernel) (pa_cons (pv 0) (pa_cons (pe_bltn (v := .ty "int") (by rfl) T.n_int (by decide +kernel) rfl) pa_nil))) (pe_one (pe_not (pe_callB call_isi (by rfl) T.n_isinstance (by decide +kernel) (pa_cons (pv 0) (pa_cons (pe_bltn (v := .ty "bool") (by rfl) T.n_bool (by decide +kernel) rfl) pa_nil)))))))), ?_⟩
    exact ⟨_, rfl, _, _, _, _, true, rfl, .ty "int", .base (.int n), kit_ty (by decide +kernel), true, rfl, iteT ⟨_, rfl, _, _, _, _, false, rfl, .ty "bool", .base (.int n), kit_ty (by decide +kernel), false, rfl, q⟩⟩
/-! is_within: slots 0:value 1:low 2:high -/
abbrev s_is_within : Stmt := topS 9
theorem sc_is_within : FnScope ["value", "low", "high"] ["value", "low", "high"] (defScope s_is_within) := ⟨rfl, rfl, rfl, by decide +kernel, rfl, by decide +kernel, by decide +kernel⟩
def sp_is_within : Sp := fun vs H Q _ => ∃ n lo hi : Int, vs = [.int n, .int lo, .int hi] ∧ Q (.bl (decide (lo ≤ n ∧ n ≤ hi))) H
theorem ok_is_within (D : Df K mg "is_within" s_is_within) (G_is_whole : Has P w K mg base 1 "is_whole" ["value"] sp_is_whole) : Has P w K mg base 2 "is_within" ["value", "low", "high"] sp_is_within := by
  refine has_of D sc_is_within (fun _ _ _ _ _ _ us hl => match us, hl with | [_, _, _], _ => rfl) (fun vs H Q E h => ?_) (fun f cdv A outer s H vs Q E hr h => ?_)
  · obtain ⟨n, lo, hi, rfl, _⟩ := h
    rfl
  · obtain ⟨n, lo, hi, rfl, q⟩ := h
    refine ⟨_, (pss_one (ps_ret (pe_and (pe_callH G_is_whole (hr.mono (by omega)) (by rfl) (pa_cons (pv 0) pa_nil)) (pe_one (pe_chain op_le op_le (pv 1) (pv 0) (pv 2)))))), ?_⟩
    refine ⟨_, rfl, n, rfl, true, rfl, iteT ⟨_, rfl, _, rfl, _, _, rfl, rfl, _, rfl, ite2 (fun e => ?_) (fun e => ?_)⟩⟩
    · have e := of_decide_eq_true e
      refine ⟨_, rfl, _, _, rfl, rfl, ?_⟩
      show Q (.bl (decide (n ≤ hi))) H
      rw [show decide (n ≤ hi) = decide (lo ≤ n ∧ n ≤ hi) by simp [e]]
      exact q
    · have e : ¬ lo ≤ n := fun z => e (decide_eq_true z)
      show Q (.bl false) H
      rw [show false = decide (lo ≤ n ∧ n ≤ hi) by simp [e]]
      exact q
theorem kit_lst {K : PySem.W.Frag} : PySem.W.kitAny K (.type "list") [.type "list", .type "tuple"] = some true := kitAny_cons (b := true) (kit_ty (by decide +kernel)) (fun z => nomatch z) (fun _ => rfl)
theorem kit_tup {K : PySem.W.Frag} : PySem.W.kitAny K (.type "tuple") [.type "list", .type "tuple"] = some true := kitAny_cons (b := false) (kit_ty (by decide +kernel)) (fun _ => kitAny_cons (b := true) (kit_ty (by decide +kernel)) (fun z => nomatch z) (fun _ => rfl)) (fun z => nomatch z)
/-! is_listed: slots 0:value 1:most -/
abbrev s_is_listed : Stmt := topS 10
theorem sc_is_listed : FnScope ["value", "most"] ["value", "most"] (defScope s_is_listed) := ⟨rfl, rfl, rfl, by decide +kernel, rfl, by decide +kernel, by decide +kernel⟩
def sp_is_listed : Sp := fun vs H Q _ => ∃ (a : Addr) (xs : List V) (m : Int), vs = [.ref a, .int m] ∧ Sq2 H a xs ∧ ∀ H', Same H H' → Q (.bl (decide ((xs.length : Int) ≤ m))) H'
theorem ok_is_listed (D : Df K mg "is_listed" s_is_listed) (T : Tx mg) : Has P w K mg base 1 "is_listed" ["value", "most"] sp_is_listed := by
  refine has_of D sc_is_listed (fun _ _ _ _ _ _ us hl => match us, hl with | [_, _], _ => rfl) (fun vs H Q E h => ?_) (fun f cdv A outer s H vs Q E hr h => ?_)
  · obtain ⟨a, xs, m, rfl, _⟩ := h
    rfl
  · obtain ⟨a, xs, m, rfl, hx, q⟩ := h
    refine ⟨_, (pss_one (ps_ret (pe_and (pe_callB call_isiT (by rfl) T.n_isinstance (by decide +kernel) (pa_cons (pv 0) (pa_cons (pe_tup (pa_cons (pe_bltn (v := .ty "list") (by rfl) T.n_list (by decide +kernel) rfl) (pa_cons (pe_bltn (v := .ty "tuple") (by rfl) T.n_tuple (by decide +kernel) rfl) pa_nil))) pa_nil))) (pe_one (pe_cmpR op_le (pe_callB call_len_seq (by rfl) T.n_len (by decide +kernel) (pa_cons (pv 0) pa_nil)) (pv 1) (nomark _)))))), ?_⟩
    refine ⟨_, rfl, (by show 2 ≤ sizeLine; decide), fun t nt => ?_⟩
    rcases hx with hx | hx
    · refine ⟨_, t, _, _, _, true, rfl, upd_same, .cons (.ty "list") (.cons (.ty "tuple") .nil), .base (.lst (same_upd nt _ _ hx)), kit_lst, true, rfl, iteT ?_⟩
      exact ⟨_, rfl, _, _, rfl, .inl (.of (same_upd nt _ _ hx)), _, rfl, _, _, rfl, rfl, q _ (same_upd nt)⟩
    · refine ⟨_, t, _, _, _, true, rfl, upd_same, .cons (.ty "list") (.cons (.ty "tuple") .nil), .base (.tup (same_upd nt _ _ hx)), kit_tup, true, rfl, iteT ?_⟩
      exact ⟨_, rfl, _, _, rfl, .inr (.of (same_upd nt _ _ hx)), _, rfl, _, _, rfl, rfl, q _ (same_upd nt)⟩
/-! is_couple: slots 0:value -/
abbrev s_is_couple : Stmt := topS 11
theorem sc_is_couple : FnScope ["value"] ["value"] (defScope s_is_couple) := ⟨rfl, rfl, rfl, by decide +kernel, rfl, by decide +kernel, by decide +kernel⟩
def sp_is_couple : Sp := fun vs H Q _ => ∃ (a : Addr) (xs : List V), vs = [.ref a] ∧ Sq2 H a xs ∧ xs.length = 2 ∧ ∀ H', Same H H' → Q (.bl true) H'
theorem ok_is_couple (D : Df K mg "is_couple" s_is_couple) (T : Tx mg) : Has P w K mg base 1 "is_couple" ["value"] sp_is_couple := by
  refine has_of D sc_is_couple (fun _ _ _ _ _ _ us hl => match us, hl with | [_], _ => rfl) (fun vs H Q E h => ?_) (fun f cdv A outer s H vs Q E hr h => ?_)
  · obtain ⟨a, xs, rfl, _⟩ := h
    rfl
  · obtain ⟨a, xs, rfl, hx, hl, q⟩ := h
    refine ⟨_, (pss_one (ps_ret (pe_and (pe_callB call_isiT (by rfl) T.n_isinstance (by decide +kernel) (pa_cons (pv 0) (pa_cons (pe_tup (pa_cons (pe_bltn (v := .ty "list") (by rfl) T.n_list (by decide +kernel) rfl) (pa_cons (pe_bltn (v := .ty "tuple") (by rfl) T.n_tuple (by decide +kernel) rfl) pa_nil))) pa_nil))) (pe_one (pe_cmpR op_eq (pe_callB call_len_seq (by rfl) T.n_len (by decide +kernel) (pa_cons (pv 0) pa_nil)) pe_int (nomark _)))))), ?_⟩
    refine ⟨_, rfl, (by show 2 ≤ sizeLine; decide), fun t nt => ?_⟩
    rcases hx with hx | hx
    · refine ⟨_, t, _, _, _, true, rfl, upd_same, .cons (.ty "list") (.cons (.ty "tuple") .nil), .base (.lst (same_upd nt _ _ hx)), kit_lst, true, rfl, iteT ⟨_, rfl, _, _, rfl, .inl (.of (same_upd nt _ _ hx)), rfl, ?_⟩⟩
      rw [hl]
      exact q _ (same_upd nt)
    · refine ⟨_, t, _, _, _, true, rfl, upd_same, .cons (.ty "list") (.cons (.ty "tuple") .nil), .base (.tup (same_upd nt _ _ hx)), kit_tup, true, rfl, iteT ⟨_, rfl, _, _, rfl, .inr (.of (same_upd nt _ _ hx)), rfl, ?_⟩⟩
      rw [hl]
      exact q _ (same_upd nt)
end
end UP

set_option Elab.async false
set_option linter.all false
set_option maxRecDepth 100000
set_option maxHeartbeats 4000000
namespace UP
open PySem PySem.Spec PyProof.Rows L2
theorem iteP {b : Bool} {A B : Prop} (h : b = true) (x : A) : if b = true then A else B := by
  rw [if_pos h]
  exact x
theorem iteN {b : Bool} {A B : Prop} (h : b = false) (x : B) : if b = true then A else B := by
  rw [if_neg (by rw [h]; decide)]
  exact x
theorem yesT {σ : L2.St} {H : Hp} {A B : Hp → Prop} (h : A H) : tYes σ H (fun b H3 => if b = true then A H3 else B H3) := by
  show (if true = true then A H else B H)
  exact iteT h
theorem lc_gen {J : It} {n : Nat} {g : TG} {tt : TT} {te : TE} {vs : List Nat} {σ : L2.St} {H1 : Hp} {D : Addr} {Qd : Hp → Prop} (Pv : Nat → Hp → Prop) (h0 : Pv 0 (upd H1 D (.lst [])))
    (hg : ∀ i H, i < n → Pv i H → J.go i H) (hst : ∀ H, Pv n H → J.stop n H)
    (hs : ∀ i x H H', i < n → Pv i H → J.yld i H x H' → g x (wipe σ vs) H' fun σ2 H2 => wipe σ2 vs = wipe σ vs ∧ tt σ2 H2 fun b H3 =>
      if b = true then te σ2 H3 fun y H4 => ∃ acc, H4 D = some (.lst acc) ∧ acc.length < sizeLine ∧ Pv (i + 1) (upd H4 D (.lst (acc ++ [y]))) else Pv (i + 1) H3) (hd : ∀ H, Pv n H → Qd H) :
    ∃ W : Nat → Nat → Hp → Prop, (∃ m, W 0 m (upd H1 D (.lst []))) ∧ ∀ i m H, W i m H →
      (J.stop i H ∧ Qd H) ∨ (J.go i H ∧ ∃ Nx : Hp → Prop, (∀ H', Nx H' → ∃ m', m' < m ∧ W (i + 1) m' H') ∧ ∀ x H', J.yld i H x H' → g x (wipe σ vs) H' fun σ2 H2 => wipe σ2 vs = wipe σ vs ∧ tt σ2 H2 fun b H3 =>
        if b = true then te σ2 H3 fun y H4 => ∃ acc, H4 D = some (.lst acc) ∧ acc.length < sizeLine ∧ Nx (upd H4 D (.lst (acc ++ [y]))) else Nx H3) := by
  refine ⟨fun i m H => m = n - i ∧ i ≤ n ∧ Pv i H, ⟨n, by simp, Nat.zero_le _, h0⟩, ?_⟩
  rintro i m H ⟨rfl, hi, p⟩
  by_cases hlt : i < n
  · exact .inr ⟨hg i H hlt p, Pv (i + 1), fun H' p' => ⟨n - (i + 1), by omega, rfl, hlt, p'⟩, fun x H' y => hs i x H H' hlt p y⟩
  · have e : i = n := by omega
    subst e
    exact .inl ⟨hst H p, hd H p⟩
section
variable {X : Cx} {K : PySem.W.Frag}
theorem ix_tupK (h : X.K = K) : IxR X (rIxT K) := h ▸ ix_tup
theorem ix_listK (h : X.K = K) : IxR X (rIxL K) := h ▸ ix_list
theorem pg_tupK {es : List Expr} {k : Nat} {t : TGs} {n : Nat} {pos : Pos} (h : X.K = K) (hc : X.calm = true) (hp : PGs X es t)
    (hn : (assignEach es X.env).length = n := by rfl) (hst : (assignEach es X.env).findIdx? (fun z => z.1) = none := by rfl) : PG X (.Tuple es k pos) (gTup K n t) := by
  subst h
  exact pg_tup hc hp hn hst
theorem call_len_seqK (h : X.K = K) : CallR X (.builtin "len") (fun xs H Q => ∃ p ys, xs = [.ref p] ∧ (SqL K H p ys ∨ SqT K H p ys) ∧ Q (.int ys.length) H) := by
  subst h
  exact call_len_seq
end
theorem ix_seqK {X : Cx} {K : PySem.W.Frag} (h : X.K = K) : IxR X (rIx K) := h ▸ ix_seq
/-! ### lists that grow -/
theorem same_grow {H H4 : Hp} {D : Addr} {o : HO} (n : H D = none) (s : Same H H4) : Same H (upd H4 D o) := fun b x e => by
  rw [upd_ne (ne_of_none e n)]
  exact s b x e
theorem RunV.grow {H : Hp} {D : Addr} {acc acc' : List V} {v : V} {r : Run} (hD : H D = some (.lst acc)) (h : RunV H v r) : RunV (upd H D (.lst acc')) v r := by
  obtain ⟨t, e, h⟩ := h
  refine ⟨t, e, ?_⟩
  rw [upd_ne (ne_of h hD (by intro q; cases q))]
  exact h
theorem prs_grow {H : Hp} {D : Addr} {acc acc' : List V} {xs : List V} {rs : List Run} (hD : H D = some (.lst acc)) (h : Paired (RunV H) xs rs) : Paired (RunV (upd H D (.lst acc'))) xs rs := Paired.imp (fun _ _ => RunV.grow hD) h
theorem prs_same {H H' : Hp} {xs : List V} {rs : List Run} (s : Same H H') (h : Paired (RunV H) xs rs) : Paired (RunV H') xs rs := Paired.imp (fun _ _ => RunV.same s) h
theorem take_snoc {α : Type} {l : List α} {i : Nat} {x : α} (h : l[i]? = some x) : l.take (i + 1) = l.take i ++ [x] := by
  rw [List.take_add_one, h]
  rfl
theorem lc_wk {J : It} {H0 H1 : Hp} {xs : List V} {g : TG} {tt : TT} {te : TE} {vs : List Nat} {σ : L2.St} {D : Addr} {Qd : Hp → Prop} (wk : Wk J H0 xs) (Pv : Nat → Hp → Prop) (hsm : ∀ i H, Pv i H → Same H0 H) (h0 : Pv 0 (upd H1 D (.lst [])))
    (hs : ∀ i x H, xs[i]? = some x → Pv i H → g x (wipe σ vs) H fun σ2 H2 => wipe σ2 vs = wipe σ vs ∧ tt σ2 H2 fun b H3 =>
      if b = true then te σ2 H3 fun y H4 => ∃ acc, H4 D = some (.lst acc) ∧ acc.length < sizeLine ∧ Pv (i + 1) (upd H4 D (.lst (acc ++ [y]))) else Pv (i + 1) H3) (hd : ∀ H, Pv xs.length H → Qd H) :
    ∃ W : Nat → Nat → Hp → Prop, (∃ m, W 0 m (upd H1 D (.lst []))) ∧ ∀ i m H, W i m H →
      (J.stop i H ∧ Qd H) ∨ (J.go i H ∧ ∃ Nx : Hp → Prop, (∀ H', Nx H' → ∃ m', m' < m ∧ W (i + 1) m' H') ∧ ∀ x H', J.yld i H x H' → g x (wipe σ vs) H' fun σ2 H2 => wipe σ2 vs = wipe σ vs ∧ tt σ2 H2 fun b H3 =>
        if b = true then te σ2 H3 fun y H4 => ∃ acc, H4 D = some (.lst acc) ∧ acc.length < sizeLine ∧ Nx (upd H4 D (.lst (acc ++ [y]))) else Nx H3) := by
  refine lc_gen Pv h0 (fun i H hi p => wk.go i H (hsm i H p) hi) (fun H p => wk.stop H (hsm _ H p)) (fun i x H H' hi p y => ?_) hd
  obtain ⟨e, ex⟩ := wk.yld i x H H' (hsm i H p) y
  subst e
  exact hs i x _ ex p
theorem for_wk {J : It} {H0 H : Hp} {xs : List V} {g : TG} {tb : TS} {D : Ends} {σ : L2.St} (wk : Wk J H0 xs) (Pv : Nat → L2.St → Hp → Prop) (hsm : ∀ i σ H, Pv i σ H → Same H0 H) (h0 : Pv 0 σ H)
    (hs : ∀ i x σ H, xs[i]? = some x → Pv i σ H → g x σ H fun σ2 H2 => tb { D with nx := Pv (i + 1), ct := Pv (i + 1), bk := D.nx } σ2 H2) (hd : ∀ σ H, Pv xs.length σ H → D.nx σ H) :
    ∃ W : Nat → Nat → L2.St → Hp → Prop, (∃ m, W 0 m σ H) ∧ ∀ i m σ H, W i m σ H →
      (J.stop i H ∧ D.nx σ H) ∨ (J.go i H ∧ ∃ N : L2.St → Hp → Prop, (∀ σ' H', N σ' H' → ∃ m', m' < m ∧ W (i + 1) m' σ' H') ∧ ∀ x H', J.yld i H x H' → g x σ H' fun σ2 H2 => tb { D with nx := N, ct := N, bk := D.nx } σ2 H2) := by
  refine ⟨fun i m σ H => m = xs.length - i ∧ i ≤ xs.length ∧ Pv i σ H, ⟨xs.length, by omega, Nat.zero_le _, h0⟩, ?_⟩
  rintro i m σ H ⟨rfl, hi, p⟩
  by_cases hlt : i < xs.length
  · refine Or.inr ⟨wk.go i H (hsm i σ H p) hlt, Pv (i + 1), fun σ' H' p' => ⟨xs.length - (i + 1), by omega, rfl, hlt, p'⟩, fun x H' y => ?_⟩
    obtain ⟨e, ex⟩ := wk.yld i x H H' (hsm i σ H p) y
    subst e
    exact hs i x σ _ ex p
  · have e : i = xs.length := by omega
    subst e
    exact Or.inl ⟨wk.stop H (hsm _ σ H p), hd σ H p⟩
section
variable {P : Program} {w : World} {K : PySem.W.Frag} {mg : Str → Option Value} {base : Heap}
theorem lex1 {c d : Nat} : (!decide (([c] : List Nat) < [d])) = decide (d ≤ c) := by
  have e : (([c] : List Nat) < [d]) ↔ c < d := by
    rw [List.cons_lt_cons_iff]
    simp
  by_cases h : c < d
  · rw [decide_eq_true (e.mpr h), decide_eq_false (by omega)]
    rfl
  · rw [decide_eq_false (fun z => h (e.mp z)), decide_eq_true (by omega)]
    rfl
/-! is_kind: slots 0:value 1:letter -/
abbrev s_is_kind : Stmt := topS 12
theorem sc_is_kind : FnScope ["value", "letter"] ["value"] (defScope s_is_kind) := ⟨rfl, rfl, rfl, by decide +kernel, rfl, by decide +kernel, by decide +kernel⟩
def sp_is_kind : Sp := fun vs H Q _ => ∃ z : Str, vs = [.str z] ∧ KindOk z ∧ ∀ H', Same H H' → Q (.bl true) H'
theorem ok_is_kind (D : Df K mg "is_kind" s_is_kind) (T : Tx mg) : Has P w K mg base 1 "is_kind" ["value"] sp_is_kind := by
  refine has_of D sc_is_kind (fun _ _ _ _ _ _ us hl => match us, hl with | [_], _ => rfl) (fun vs H Q E h => ?_) (fun f cdv A outer s H vs Q E hr h => ?_)
  · obtain ⟨n, rfl, _⟩ := h
    rfl
  · obtain ⟨z, rfl, ⟨k1, k2, k3⟩, q⟩ := h
    refine ⟨_, (pss_cons (ps_if (PW.pt (pw_or (pt_not (pt_val (pe_callB call_isi (by rfl) T.n_isinstance (by decide +kernel) (pa_cons (pv 0) (pa_cons (pe_bltn (v := .ty "str") (by rfl) T.n_str (by decide +kernel) rfl) pa_nil))))) (pw_or1 (pt_not (pt_chain op_le op_le pe_int (pe_callB call_len_str (by rfl) T.n_len (by decide +kernel) (pa_cons (pv 0) pa_nil)) (pe_glI T.c_MAX_LETTERS (by rfl))))))) (pss_one (ps_ret pe_bl)) pss_nil)
    (pss_one (ps_ret (pe_callB (cr_all rfl) (by rfl) T.n_all (by decide +kernel) (pa_cons (pe_lc (own := [("letter", 1)]) rfl sc_is_kind.nd (pi_str (pv 0)) (blkOk_by (N := ["value", "letter"]) (sc := defScope s_is_kind) (by decide +kernel)) (fun _ _ _ _ _ => (pg_name (i := 1) sc_is_kind.nd rfl (by first | exact Or.inl rfl | exact Or.inr rfl))) (fun _ _ _ _ _ => pts_nil) (fun _ _ _ _ _ => (pe_chain op_le_str op_le_str pe_str (pv 1) pe_str))) pa_nil))))), ?_⟩
    refine ⟨_, rfl, _, _, _, _, true, rfl, .ty "str", .base (.str z), kit_ty (by decide +kernel), true, rfl, iteF ?_⟩
    refine ⟨_, rfl, z, rfl, smallE (by omega), _, _, rfl, rfl, _, rfl, iteP (decide_eq_true (by omega)) ⟨_, _, rfl, rfl, _, rfl, iteN ?_ ?_⟩⟩
    · show (!decide ((z.length : Int) ≤ 8)) = false
      rw [decide_eq_true (by omega)]
      rfl
    refine ⟨_, rfl, z, rfl, fun L nL => lc_gen (n := z.cps.size) (fun i H' => Same H H' ∧ H' L = some (.lst ((List.replicate i true).map V.bl))) ⟨same_upd nL, upd_same⟩ (fun i H' hi _ => hi) (fun H' _ => Nat.le_refl _) (fun i x H1 H2 hi p y => ?_) (fun H' p => ?_)⟩
    · obtain ⟨rfl, c, ec, rfl⟩ := y
      obtain ⟨sm, hL⟩ := p
      have hc : 97 ≤ c ∧ c ≤ 122 := k3 c (by
        have := Array.mem_of_getElem? ec
        simpa using this)
      have ea : ("a" : Str).cps.toList = [97] := by decide +kernel
      have ez : ("z" : Str).cps.toList = [122] := by decide +kernel
      refine ⟨rfl, yesT ⟨_, rfl, _, _, rfl, rfl, _, rfl, iteP ?_ ⟨_, _, rfl, rfl, _, hL, ?_, ?_, ?_⟩⟩⟩
      · show (!decide (([c] : List Nat) < ("a" : Str).cps.toList)) = true
        rw [ea, lex1]
        exact decide_eq_true hc.1
      · simp only [List.length_map, List.length_replicate]
        exact small (by have : z.cps.size = z.length := rfl; omega)
      · intro b o e
        have nb : b ≠ L := ne_of_none e nL
        rw [upd_ne nb]
        exact sm b o e
      · rw [upd_same]
        have e1 : (!decide ((("z" : Str).cps.toList) < ([c] : List Nat))) = true := by
          rw [ez, lex1]
          exact decide_eq_true hc.2
        show some (HO.lst ((List.replicate i true).map V.bl ++ [V.bl (!decide ((("z" : Str).cps.toList) < ([c] : List Nat)))])) = _
        rw [e1, List.replicate_succ', List.map_append]
        rfl
    · refine ⟨L, _, rfl, .of p.2, ?_⟩
      have e : ((List.replicate z.cps.size true).all id) = true := by simp
      rw [e]
      exact q H' p.1
def StOk (st : Option Run) : Prop := ∀ r, st = some r → KindOk r.1 ∧ 1 ≤ r.2
theorem at0 {α : Type} {x y : α} : atI [x, y] 0 = some x := rfl
theorem at1 {α : Type} {x y : α} : atI [x, y] 1 = some y := rfl
theorem ix0 {K : PySem.W.Frag} {H : Hp} {t : Addr} {x y : V} {Q : VK} (h : Sq2 H t [x, y]) (q : Q x H) : rIx K (.ref t) (.int 0) H Q := h.elim (fun z => .inl ⟨t, _, 0, _, rfl, rfl, .of z, at0, q⟩) (fun z => .inr (.inl ⟨t, _, 0, _, rfl, rfl, .of z, at0, q⟩))
theorem ix1 {K : PySem.W.Frag} {H : Hp} {t : Addr} {x y : V} {Q : VK} (h : Sq2 H t [x, y]) (q : Q y H) : rIx K (.ref t) (.int 1) H Q := h.elim (fun z => .inl ⟨t, _, 1, _, rfl, rfl, .of z, at1, q⟩) (fun z => .inr (.inl ⟨t, _, 1, _, rfl, rfl, .of z, at1, q⟩))
theorem all_rep (n : Nat) : ((List.replicate n true).all id) = true := by simp
/-! is_run: slots 0:value -/
abbrev s_is_run : Stmt := topS 13
theorem sc_is_run : FnScope ["value"] ["value"] (defScope s_is_run) := ⟨rfl, rfl, rfl, by decide +kernel, rfl, by decide +kernel, by decide +kernel⟩
def sp_is_run : Sp := fun vs H Q _ => ∃ (v : V) (r : Run), vs = [v] ∧ RunG H v r ∧ RunOk r ∧ ∀ H', Same H H' → Q (.bl true) H'
theorem ok_is_run (D : Df K mg "is_run" s_is_run) (T : Tx mg) (G_is_couple : Has P w K mg base 1 "is_couple" ["value"] sp_is_couple) (G_is_kind : Has P w K mg base 1 "is_kind" ["value"] sp_is_kind) (G_is_within : Has P w K mg base 2 "is_within" ["value", "low", "high"] sp_is_within) :
    Has P w K mg base 3 "is_run" ["value"] sp_is_run := by
  refine has_of D sc_is_run (fun _ _ _ _ _ _ us hl => match us, hl with | [_], _ => rfl) (fun vs H Q E h => ?_) (fun f cdv A outer s H vs Q E hr h => ?_)
  · obtain ⟨v, r, rfl, _⟩ := h
    rfl
  · obtain ⟨v, r, rfl, ⟨t, rfl, ht⟩, ⟨k, c1, c2⟩, q⟩ := h
    refine ⟨_, (pss_one (ps_ret (pe_and (pe_callH G_is_couple (hr.mono (by omega)) (by rfl) (pa_cons (pv 0) pa_nil)) (pe_and (pe_callH G_is_kind (hr.mono (by omega)) (by rfl) (pa_cons (pe_ix ix_seq (pv 0) pe_int (fun _ _ => rfl)) pa_nil)) (pe_one (pe_callH G_is_within (hr.mono (by omega)) (by rfl) (pa_cons (pe_ix ix_seq (pv 0) pe_int (fun _ _ => rfl)) (pa_cons pe_int (pa_cons (pe_glI T.c_MAX_COUNT (by rfl)) pa_nil))))))))), ?_⟩
    refine ⟨_, rfl, t, _, rfl, ht, rfl, fun H1 s1 => ⟨true, rfl, iteT ?_⟩⟩
    refine ⟨_, rfl, ix0 (ht.same s1) ⟨r.1, rfl, k, fun H2 s2 => ⟨true, rfl, iteT ?_⟩⟩⟩
    refine ⟨_, rfl, ix1 ((ht.same s1).same s2) ⟨r.2, 1, _, rfl, ?_⟩⟩
    rw [decide_eq_true ⟨c1, c2⟩]
    exact q _ (s1.trans s2)
/-! is_state: slots 0:value -/
abbrev s_is_state : Stmt := topS 14
theorem sc_is_state : FnScope ["value"] ["value"] (defScope s_is_state) := ⟨rfl, rfl, rfl, by decide +kernel, rfl, by decide +kernel, by decide +kernel⟩
def sp_is_state : Sp := fun vs H Q _ => ∃ (v : V) (st : Option Run), vs = [v] ∧ StG H v st ∧ StOk st ∧ ∀ H', Same H H' → Q (.bl true) H'
theorem ok_is_state (D : Df K mg "is_state" s_is_state) (T : Tx mg) (G_is_couple : Has P w K mg base 1 "is_couple" ["value"] sp_is_couple) (G_is_kind : Has P w K mg base 1 "is_kind" ["value"] sp_is_kind) (G_is_whole : Has P w K mg base 1 "is_whole" ["value"] sp_is_whole) :
    Has P w K mg base 2 "is_state" ["value"] sp_is_state := by
  refine has_of D sc_is_state (fun _ _ _ _ _ _ us hl => match us, hl with | [_], _ => rfl) (fun vs H Q E h => ?_) (fun f cdv A outer s H vs Q E hr h => ?_)
  · obtain ⟨v, r, rfl, _⟩ := h
    rfl
  · obtain ⟨v, st, rfl, hv, ok, q⟩ := h
    refine ⟨_, (pss_cons (ps_if (pt_cmpR op_isN (pv 0) pe_non (nomark _)) (pss_one (ps_ret pe_bl)) pss_nil)
    (pss_one (ps_ret (pe_and (pe_callH G_is_couple (hr.mono (by omega)) (by rfl) (pa_cons (pv 0) pa_nil)) (pe_and (pe_callH G_is_kind (hr.mono (by omega)) (by rfl) (pa_cons (pe_ix ix_seq (pv 0) pe_int (fun _ _ => rfl)) pa_nil)) (pe_and (pe_callH G_is_whole (hr.mono (by omega)) (by rfl) (pa_cons (pe_ix ix_seq (pv 0) pe_int (fun _ _ => rfl)) pa_nil)) (pe_one (pe_cmpR op_ge (pe_ix ix_seq (pv 0) pe_int (fun _ _ => rfl)) pe_int (nomark _))))))))), ?_⟩
    cases st with
    | none =>
      cases hv
      exact ⟨_, rfl, rfl, _, rfl, iteP rfl (q H (Same.refl H))⟩
    | some r =>
      obtain ⟨t, rfl, ht⟩ := hv
      obtain ⟨k, c1⟩ := ok r rfl
      refine ⟨_, rfl, rfl, _, rfl, iteN rfl ?_⟩
      refine ⟨_, rfl, t, _, rfl, ht, rfl, fun H1 s1 => ⟨true, rfl, iteT ?_⟩⟩
      refine ⟨_, rfl, ix0 (ht.same s1) ⟨r.1, rfl, k, fun H2 s2 => ⟨true, rfl, iteT ?_⟩⟩⟩
      refine ⟨_, rfl, ix1 ((ht.same s1).same s2) ⟨r.2, rfl, true, rfl, iteT ?_⟩⟩
      refine ⟨_, rfl, ix1 ((ht.same s1).same s2) ⟨_, _, rfl, rfl, ?_⟩⟩
      show Q (.bl (decide (1 ≤ r.2))) H2
      rw [decide_eq_true c1]
      exact q _ (s1.trans s2)
/-! checked_state: slots 0:state -/
abbrev s_checked_state : Stmt := topS 15
theorem sc_checked_state : FnScope ["state"] ["state"] (defScope s_checked_state) := ⟨rfl, rfl, rfl, by decide +kernel, rfl, by decide +kernel, by decide +kernel⟩
def sp_checked_state : Sp := fun vs H Q _ => ∃ (v : V) (st : Option Run), vs = [v] ∧ StG H v st ∧ StOk st ∧ ∀ H' v', Same H H' → StV H' v' st → Q v' H'
theorem ok_checked_state (D : Df K mg "checked_state" s_checked_state) (T : Tx mg) (G_is_state : Has P w K mg base 2 "is_state" ["value"] sp_is_state) :
    Has P w K mg base 3 "checked_state" ["state"] sp_checked_state := by
  refine has_of D sc_checked_state (fun _ _ _ _ _ _ us hl => match us, hl with | [_], _ => rfl) (fun vs H Q E h => ?_) (fun f cdv A outer s H vs Q E hr h => ?_)
  · obtain ⟨v, r, rfl, _⟩ := h
    rfl
  · obtain ⟨v, st, rfl, hv, ok, q⟩ := h
    refine ⟨_, (pss_cons (ps_if (pt_not (pt_val (pe_callH G_is_state (hr.mono (by omega)) (by rfl) (pa_cons (pv 0) pa_nil)))) (pss_one ps_never) pss_nil)
    (pss_one (ps_ret (pe_ifExp (pt_cmpR op_isN (pv 0) pe_non (nomark _)) pe_non (pe_callTy call_tuple_of (by rfl) T.n_tuple (by decide +kernel) (pa_cons (pv 0) pa_nil)))))), ?_⟩
    refine ⟨_, rfl, v, st, rfl, hv, ok, fun H1 s1 => ⟨true, rfl, iteF ?_⟩⟩
    cases st with
    | none =>
      cases hv
      exact ⟨_, rfl, rfl, _, rfl, iteP rfl (q H1 _ s1 rfl)⟩
    | some r =>
      obtain ⟨t, rfl, ht⟩ := hv
      refine ⟨_, rfl, rfl, _, rfl, iteN rfl ⟨_, rfl, t, [.str r.1, .int r.2], rfl, ?_⟩⟩
      rcases ht.same s1 with z | z
      · exact .inl ⟨.of z, fun l nl => q _ _ (s1.trans (same_upd nl)) ⟨l, rfl, upd_same⟩⟩
      · exact .inr ⟨.of z, q H1 _ s1 ⟨t, rfl, z⟩⟩
end
end UP

set_option Elab.async false
set_option linter.all false
set_option maxRecDepth 100000
set_option maxHeartbeats 4000000
namespace UP
open PySem PySem.Spec PyProof.Rows L2
section
variable {P : Program} {w : World} {K : PySem.W.Frag} {mg : Str → Option Value} {base : Heap}
def lenR (rs : List Run) : Int := (rs.map (·.2)).sum
/-! length_of: slots 0:runs 1:kind 2:count -/
abbrev s_length_of : Stmt := topS 16
theorem sc_length_of : FnScope ["runs", "kind", "count"] ["runs"] (defScope s_length_of) := ⟨rfl, rfl, rfl, by decide +kernel, rfl, by decide +kernel, by decide +kernel⟩
def sp_length_of : Sp := fun vs H Q _ => ∃ (a : Addr) (rs : List Run), vs = [.ref a] ∧ Runs H a rs ∧ rs.length ≤ 1000 ∧ ∀ H', Same H H' → Q (.int (lenR rs)) H'
theorem ok_length_of (D : Df K mg "length_of" s_length_of) (T : Tx mg) : Has P w K mg base 1 "length_of" ["runs"] sp_length_of := by
  refine has_of D sc_length_of (fun _ _ _ _ _ _ us hl => match us, hl with | [_], _ => rfl) (fun vs H Q E h => ?_) (fun f cdv A outer s H vs Q E hr h => ?_)
  · obtain ⟨v, r, rfl, _⟩ := h
    rfl
  · obtain ⟨a, rs, rfl, ⟨xs, hx, hp⟩, l4, q⟩ := h
    have lx : xs.length = rs.length := Paired.len hp
    refine ⟨_, (pss_one (ps_ret (pe_callB (cr_sum rfl) (by rfl) T.n_sum (by decide +kernel) (pa_cons (pe_lc (own := [("kind", 1), ("count", 2)]) rfl sc_length_of.nd (pi_list (pv 0)) (blkOk_by (N := ["runs", "kind", "count"]) (sc := defScope s_length_of) (by decide +kernel)) (fun _ _ _ _ _ => (pg_tupK (K := K) (n := 2) rfl rfl (pgs_cons (pg_name (i := 1) sc_length_of.nd rfl (by first | exact Or.inl rfl | exact Or.inr rfl)) (pgs_cons (pg_name (i := 2) sc_length_of.nd rfl (by first | exact Or.inl rfl | exact Or.inr rfl)) pgs_nil)))) (fun _ _ _ _ _ => pts_nil) (fun _ _ _ _ _ => (pv 2))) pa_nil)))), ?_⟩
    refine ⟨_, rfl, a, rfl, ⟨xs, .of hx⟩, fun L nL => lc_list (K := K) (a := a) (xs := xs) (fun i H' => Same H H' ∧ H' L = some (.lst (((rs.map (·.2)).take i).map V.int))) ⟨same_upd nL, upd_same⟩ (fun i H' _ p => .of (p.1 _ _ hx)) (fun i x H2 ex p => ?_) (fun H2 p => ?_)⟩
    · obtain ⟨sm, hL⟩ := p
      obtain ⟨r, er, hr1⟩ := Paired.at hp ex
      have hi : i < xs.length := (List.getElem?_eq_some_iff.mp ex).1
      obtain ⟨t, rfl, ht⟩ := RunV.same sm hr1
      refine ⟨t, _, rfl, .of ht, rfl, _, _, rfl, _, _, rfl, rfl, rfl, yesT ⟨_, rfl, _, hL, ?_, same_grow nL sm, ?_⟩⟩
      · simp only [List.length_map, List.length_take]
        exact small (by omega)
      · rw [upd_same, take_snoc (x := r.2) (by rw [List.getElem?_map, er]; rfl), List.map_append]
        rfl
    · refine ⟨L, (rs.map (fun r : Run => r.2)), rfl, .of ?_, q H2 p.1⟩
      have := p.2
      rw [List.take_of_length_le (by rw [List.length_map]; omega)] at this
      exact this
end
end UP

set_option Elab.async false
set_option linter.all false
set_option maxRecDepth 100000
set_option maxHeartbeats 4000000
namespace UP
open PySem PySem.Spec PyProof.Rows L2
/-! ### the mirror of cut -/
theorem lenR_nil : lenR [] = 0 := rfl
theorem lenR_cons (r : Run) (l : List Run) : lenR (r :: l) = r.2 + lenR l := by
  unfold lenR
  rw [List.map_cons, List.sum_cons]
theorem lenR_app (l m : List Run) : lenR (l ++ m) = lenR l + lenR m := by
  induction l with
  | nil => rw [List.nil_append, lenR_nil]; omega
  | cons r t ih => rw [List.cons_append, lenR_cons, lenR_cons, ih]; omega
theorem lenR_snoc (l : List Run) (r : Run) : lenR (l ++ [r]) = lenR l + r.2 := by
  rw [lenR_app, lenR_cons, lenR_nil]
  omega
def sizeR (b s e c : Int) : Int := (if b + c < e then b + c else e) - (if b > s then b else s)
def pieceR (b s e : Int) (r : Run) : List Run := if 0 < sizeR b s e r.2 then [(r.1, sizeR b s e r.2)] else []
def cutR (s e : Int) : Int → List Run → List Run
  | _, [] => []
  | b, r :: t => pieceR b s e r ++ cutR s e (b + r.2) t
theorem cutR_snoc (s e : Int) : ∀ (l : List Run) (b : Int) (r : Run), cutR s e b (l ++ [r]) = cutR s e b l ++ pieceR (b + lenR l) s e r
  | [], b, r => by
    show pieceR b s e r ++ [] = [] ++ pieceR (b + lenR []) s e r
    rw [lenR_nil, Int.add_zero, List.append_nil, List.nil_append]
  | x :: t, b, r => by
    show pieceR b s e x ++ cutR s e (b + x.2) (t ++ [r]) = (pieceR b s e x ++ cutR s e (b + x.2) t) ++ pieceR (b + lenR (x :: t)) s e r
    rw [cutR_snoc s e t, lenR_cons, List.append_assoc, Int.add_assoc]
theorem pieceR_len (b s e : Int) (r : Run) : (pieceR b s e r).length ≤ 1 := by
  unfold pieceR
  split <;> simp
theorem cutR_len (s e : Int) : ∀ (l : List Run) (b : Int), (cutR s e b l).length ≤ l.length
  | [], _ => Nat.le_refl _
  | r :: t, b => by
    show (pieceR b s e r ++ cutR s e (b + r.2) t).length ≤ (r :: t).length
    have h1 := pieceR_len b s e r
    have h2 := cutR_len s e t (b + r.2)
    rw [List.length_append, List.length_cons]
    omega
section
variable {P : Program} {w : World} {K : PySem.W.Frag} {mg : Str → Option Value} {base : Heap}
end
end UP

set_option Elab.async false
set_option linter.all false
set_option maxRecDepth 100000
set_option maxHeartbeats 4000000
namespace UP
open PySem PySem.Spec PyProof.Rows L2
/-! ### the mirror of the states -/
def numR : Option Run → Int
  | none => 0
  | some r => r.2
def leavR : Option Run → Str → Int → Int
  | none, _, _ => 0
  | some r, k, c => if r.1 = k then 0 else if c < r.2 then c else r.2
def stepR : Option Run → Str → Int → Option Run
  | some r, k, c => if r.1 = k then some (k, r.2 + c) else if 0 < r.2 - c then some (r.1, r.2 - c) else if r.2 - c = 0 then none else some (k, -(r.2 - c))
  | none, k, c => some (k, c)
def withR (k : Str) (n : Int) : Option Run := if n = 0 then none else some (k, n)
def stR (rs : List Run) (st : Option Run) : Option Run := rs.foldl (fun s r => stepR s r.1 r.2) st
theorem stR_snoc (l : List Run) (r : Run) (st : Option Run) : stR (l ++ [r]) st = stepR (stR l st) r.1 r.2 := by
  unfold stR
  rw [List.foldl_append]
  rfl
section
variable {P : Program} {w : World} {K : PySem.W.Frag} {mg : Str → Option Value} {base : Heap}
/-! waiting_number: slots 0:state -/
abbrev s_waiting_number : Stmt := topS 18
theorem sc_waiting_number : FnScope ["state"] ["state"] (defScope s_waiting_number) := ⟨rfl, rfl, rfl, by decide +kernel, rfl, by decide +kernel, by decide +kernel⟩
def sp_waiting_number : Sp := fun vs H Q _ => ∃ (v : V) (st : Option Run), vs = [v] ∧ StV H v st ∧ Q (.int (numR st)) H
theorem ok_waiting_number (D : Df K mg "waiting_number" s_waiting_number) : Has P w K mg base 1 "waiting_number" ["state"] sp_waiting_number := by
  refine has_of D sc_waiting_number (fun _ _ _ _ _ _ us hl => match us, hl with | [_], _ => rfl) (fun vs H Q E h => ?_) (fun f cdv A outer s₀ H vs Q E hr h => ?_)
  · obtain ⟨a, rs, rfl, _⟩ := h
    rfl
  · obtain ⟨v, st, rfl, hv, q⟩ := h
    refine ⟨_, (pss_one (ps_ret (pe_ifExp (pt_cmpR op_isN (pv 0) pe_non (nomark _)) pe_int (pe_ix ix_tup (pv 0) pe_int (fun _ _ => rfl))))), ?_⟩
    cases st with
    | none =>
      cases hv
      exact ⟨_, rfl, rfl, _, rfl, iteP rfl q⟩
    | some r =>
      obtain ⟨t, rfl, ht⟩ := hv
      exact ⟨_, rfl, rfl, _, rfl, iteN rfl ⟨_, rfl, t, _, 1, _, rfl, rfl, .of ht, at1, q⟩⟩
end
end UP

set_option Elab.async false
set_option linter.all false
set_option maxRecDepth 100000
set_option maxHeartbeats 4000000
namespace UP
open PySem PySem.Spec PyProof.Rows L2
def DfD (K : PySem.W.Frag) (mg : Str → Option Value) (x : Str) (st : Stmt) (dvs : List V) : Prop := ∃ f fd, mg x = some (.ref f) ∧ FunD K x x (defArgs st) (defBody st) (defScope st) dvs [] f fd
/-- a def whose last parameter, kw, has the default None -/
def HasD (P : Program) (w : World) (K : PySem.W.Frag) (mg : Str → Option Value) (base : Heap) (k : Nat) (x : Str) (ps : List Str) (n : Nat) (kw : Str) (sp : Sp) : Prop :=
  ∃ f fd, mg x = some (.ref f) ∧ PySem.W.keepIn K (.ref f) = true ∧ Binds K fd ps [] ∧ (∃ ds, Vals [.non] ds ∧ Binds K fd ps ds) ∧ KBn K fd ps n [kw] (fun us ws => us ++ ws) (fun vs zs => vs ++ zs) ∧ FnOk P w K mg base CX0 k f fd ps sp
section
variable {P : Program} {w : World} {K : PySem.W.Frag} {mg : Str → Option Value} {base : Heap}
theorem HasD.has {k n : Nat} {x kw : Str} {ps : List Str} {sp : Sp} (h : HasD P w K mg base k x ps n kw sp) : Has P w K mg base k x ps sp := by
  obtain ⟨f, fd, g, kp, b, _, _, F⟩ := h
  exact ⟨f, fd, g, kp, b, F⟩
theorem has_ofD {x kw : Str} {st : Stmt} {ps N : List Str} {k n : Nat} {sp : Sp} (D : DfD K mg x st [.non]) (S : FnScope N ps (defScope st)) (hpn : ps.length = n + 1)
    (hb : ∀ (T : Addr) (kV doc pm : Value) (an : Option Addr) (cdv ct : Value) (us its : List Value), us.length = n + 1 → its.length = 1 →
      ∃ k, bindArgs (PySem.W.fnOf x x (defArgs st) (defBody st) (defScope st) (.ref T) kV doc pm an cdv ct) ⟨us, []⟩ = seqItems? (.ref T) >>= k ∧ k (some its.toArray) = pure (ps.zip us))
    (hb1 : ∀ (T : Addr) (kV doc pm : Value) (an : Option Addr) (cdv ct : Value) (us its : List Value), us.length = n → its.length = 1 →
      ∃ k, bindArgs (PySem.W.fnOf x x (defArgs st) (defBody st) (defScope st) (.ref T) kV doc pm an cdv ct) ⟨us, []⟩ = seqItems? (.ref T) >>= k ∧ k (some its.toArray) = pure (ps.zip (us ++ its)))
    (hb2 : ∀ (T : Addr) (kV doc pm : Value) (an : Option Addr) (cdv ct : Value) (us its : List Value) (v : Value), us.length = n → its.length = 1 →
      ∃ k, bindArgs (PySem.W.fnOf x x (defArgs st) (defBody st) (defScope st) (.ref T) kV doc pm an cdv ct) ⟨us, [(kw, v)]⟩ = seqItems? (.ref T) >>= k ∧ k (some its.toArray) = pure (ps.zip (us ++ [v])))
    (len : ∀ vs H Q E, sp vs H Q E → vs.length = ps.length)
    (body : ∀ (f : Addr) (cdv : Value) (A : Around) (outer : List Env) (s : Shared) (H : Hp) (vs : List V) (Q : VK) (E : XK), Room k (A.deeper (envOfC x (defScope st) s.heap.objs.size f cdv)) → sp vs H Q E →
      ∃ t, PSs (cxOf CX0 P w K mg base N x (defScope st) f cdv A outer s H E).nox (defBody st) t ∧ t { nx := fun _ H' => Q .non H', rt := Q } (start N vs) H) :
    HasD P w K mg base (k + 1) x ps n kw sp := by
  obtain ⟨f, fd, g, F⟩ := D
  have B0 : Binds K fd ps [] := by
    obtain ⟨ds, v, b⟩ := F.binds1 (n + 1) 1 (ps := ps) (by intro z; cases z) (by rw [hpn]; rfl) fun T kV doc pm an cdv ct us its h1 h2 => by
      obtain ⟨k, e1, e2⟩ := hb T kV doc pm an cdv ct us its h1 h2
      refine ⟨k, e1, ?_⟩
      have h3 : its.length ≤ 1 := Nat.le_of_eq h2
      rw [e2, List.drop_of_length_le h3, List.append_nil]
    cases v
    exact b
  have B1 : ∃ ds, Vals [V.non] ds ∧ Binds K fd ps ds := by
    obtain ⟨ds, v, b⟩ := F.binds1 n 0 (ps := ps) (by intro z; cases z) (by rw [hpn]; rfl) fun T kV doc pm an cdv ct us its h1 h2 => by
      obtain ⟨k, e1, e2⟩ := hb1 T kV doc pm an cdv ct us its h1 h2
      exact ⟨k, e1, by rw [e2, List.drop_zero]⟩
    exact ⟨ds, v, b⟩
  have B2 : KBn K fd ps n [kw] (fun us ws => us ++ ws) (fun vs zs => vs ++ zs) := by
    refine ⟨fun s us ws X l1 l2 => ?_, fun r1 r2 => r1.append r2⟩
    obtain ⟨oc, od, dV, kV, doc, pm, an, cdv, ct, osl, rfl, lk, hcd, hD, _⟩ := F.ex
    rcases hD with ⟨z, _⟩ | ⟨_, T, o, its, m, rfl, lT, oT, rT⟩
    · cases z
    · match ws, l2 with
      | [v], _ =>
        obtain ⟨k, e1, e2⟩ := hb2 T kV doc pm an cdv ct us its v l1 rT.length.symm
        refine BindsTo.of_looks fun M => ?_
        show PySem.W.Looks M s.heap (bindArgs _ ⟨us, [(kw, v)]⟩) _
        rw [e1]
        exact looks_items X lT oT (.of_pure e2)
  refine ⟨f, fd, g, F.kp, B0, B1, B2, F.ok S len fun cdv A outer s H vs Q E hr h => ?_⟩
  obtain ⟨t, p, q⟩ := body f cdv A outer s H vs Q E hr h
  exact ⟨t, p.nox, q⟩
end
section
variable {X : Cx}
/-- the default taken -/
theorem pe_callDH {k n : Nat} {x kw : Str} {ps : List Str} {sp : Sp} {p pos : Pos} {e : Expr} {es : List Expr} {t : TA} (G : HasD X.prog X.w X.K X.mg X.base k x ps n kw sp) (hr : Room k X.A) (hg : Gl X x) (ha : PA X (e :: es) t)
    (hdb : (x == ("__debug__" : Str)) = false := by decide) (he : starEach (e :: es) X.env = (false, eval e X.env) :: starEach es X.env := by rfl) (hpl : (backTo pos (starEach es X.env)).any (·.1) = false := by rfl) :
    PE X (.Call (.Name x p) (e :: es) [] pos) (tCall sp [.non] E0 t) := by
  obtain ⟨f, fd, g, kp, _, ⟨ds, v, b⟩, _, F⟩ := G
  exact pe_call F hr hg g kp b v pass0 ha hdb he hpl
/-- the last one by its name -/
theorem pe_callNH {k n : Nat} {x kw : Str} {ps : List Str} {sp : Sp} {p pos : Pos} {e : Expr} {es : List Expr} {kws : List Keyword} {t tk : TA} (G : HasD X.prog X.w X.K X.mg X.base k x ps n kw sp) (hr : Room k X.A) (hg : Gl X x) (ha : PA X (e :: es) t) (hk : PK X kws tk)
    (h1 : (backToKw pos (keywordEach kws X.env)).all (·.1.isSome) = true := by rfl) (h2 : (backToKw pos (keywordEach kws X.env)).filterMap (·.1) = [kw] := by rfl) (hdb : (x == ("__debug__" : Str)) = false := by decide)
    (he : starEach (e :: es) X.env = (false, eval e X.env) :: starEach es X.env := by rfl) (hpl : ((backTo pos (starEach (e :: es) X.env)).any (·.1) || (backToKw pos (keywordEach kws X.env)).any (·.1.isNone)) = false := by rfl) :
    PE X (.Call (.Name x p) (e :: es) kws pos) (tCallN n 1 sp (fun vs zs => vs ++ zs) E0 t tk) := by
  obtain ⟨f, fd, g, kp, _, _, b, F⟩ := G
  exact pe_callN F hr hg g kp b pass0 ha hk h1 h2 hdb he hpl
end
section
variable {P : Program} {w : World} {K : PySem.W.Frag} {mg : Str → Option Value} {base : Heap}
theorem SeqOk.pos {rs : List Run} (h : SeqOk rs) : ∀ r ∈ rs, 1 ≤ r.2 := fun r m => (h.2.1 r m).2.1
theorem pieceR_pos {b s e : Int} {r x : Run} (h : x ∈ pieceR b s e r) : 1 ≤ x.2 := by
  unfold pieceR at h
  split at h
  · rename_i z
    simp only [List.mem_singleton] at h
    subst h
    show 1 ≤ sizeR b s e r.2
    omega
  · cases h
theorem cutR_pos {s e : Int} : ∀ {l : List Run} {b : Int}, ∀ x ∈ cutR s e b l, 1 ≤ x.2
  | [], _, x, h => by cases h
  | r :: t, b, x, h => by
    rcases List.mem_append.mp (show x ∈ pieceR b s e r ++ cutR s e (b + r.2) t from h) with h | h
    · exact pieceR_pos h
    · exact cutR_pos x h
end
end UP

set_option Elab.async false
set_option linter.all false
set_option maxRecDepth 100000
set_option maxHeartbeats 4000000
namespace UP
open PySem PySem.Spec PyProof.Rows L2
section
variable {P : Program} {w : World} {K : PySem.W.Frag} {mg : Str → Option Value} {base : Heap}
end
end UP

set_option Elab.async false
set_option linter.all false
set_option maxRecDepth 100000
set_option maxHeartbeats 4000000
namespace UP
open PySem PySem.Spec PyProof.Rows L2
/-! ### data -/
def dRun (r : Run) : PyData := .tuple [.str r.1, .int r.2]
theorem dp_run {K : PySem.W.Frag} {H : Hp} {v : V} {r : Run} (h : RunV H v r) : Dp K H v (dRun r) := by
  obtain ⟨t, rfl, h⟩ := h
  exact .tup (.of h) (.cons (.str _) (.cons (.int _) .nil))
theorem dp_all {K : PySem.W.Frag} {H : Hp} : ∀ {xs : List V} {rs : List Run}, Paired (RunV H) xs rs → DpAll K H xs (rs.map dRun)
  | _, _, .nil => .nil
  | _, _, .cons h t => .cons (dp_run h) (dp_all t)
theorem KindOk.str {s : Str} (h : KindOk s) : PyData.strOk s = true := by
  unfold PyData.strOk
  rw [Array.all_eq_true']
  intro c hc
  have := h.2.2 c (by simpa using hc)
  exact decide_eq_true (by omega)
theorem can_run {r : Run} (h : KindOk r.1) : (dRun r).canLay0 = true := by
  simp [dRun, PyData.canLay0, PyData.canLayAll0, h.str]
theorem can_runs : ∀ {rs : List Run}, (∀ r ∈ rs, KindOk r.1) → PyData.canLayAll0 (rs.map dRun) = true
  | [], _ => by simp [PyData.canLayAll0]
  | r :: t, h => by
    rw [List.map_cons, PyData.canLayAll0, can_run (h r (List.mem_cons_self ..)), can_runs fun x hx => h x (List.mem_cons_of_mem _ hx)]
    rfl
theorem depth_run (r : Run) : (dRun r).depth ≤ 2 := by
  simp [dRun, PyData.depth, PyData.depthAll]
theorem depth_runs : ∀ (rs : List Run), PyData.depthAll (rs.map dRun) ≤ 2
  | [] => by simp [PyData.depthAll]
  | r :: t => by
    rw [List.map_cons, PyData.depthAll]
    exact Nat.max_le.mpr ⟨depth_run r, depth_runs t⟩
theorem shaped_runs {rs : List Run} (h : ∀ r ∈ rs, KindOk r.1) : SeqAt.shaped (.list (rs.map dRun)) = true := by
  unfold SeqAt.shaped
  rw [PyData.canLay0, can_runs h, PyData.depth]
  have := depth_runs rs
  exact decide_eq_true (by omega)
theorem shaped_run {r : Run} (h : KindOk r.1) : SeqAt.shaped (dRun r) = true := by
  unfold SeqAt.shaped
  rw [can_run h]
  have := depth_run r
  exact decide_eq_true (by omega)
theorem shaped_nil : SeqAt.shaped (.list []) = true := by decide
theorem eqv_nil (rs : List Run) : PyData.eqv (.list (rs.map dRun)) (.list []) = rs.isEmpty := by
  cases rs with
  | nil => simp [PyData.eqv, PyData.eqvAll]
  | cons r t => simp [PyData.eqv, PyData.eqvAll]
theorem sb {sp : Addr} {H H' : Hp} (h : Same H H') : But sp H H' := fun b o _ e => h b o e
theorem But.free {sp : Addr} {H H' : Hp} (b : But sp H H') (z : Spr H' sp) {p : Addr} (h : H' p = none) : H p = none := by
  by_cases e : p = sp
  · subst e
    obtain ⟨_, _, _, h1, _⟩ := z
    rw [h1] at h
    cases h
  · cases q : H p with
    | none => rfl
    | some o =>
      rw [b p o e q] at h
      cases h
theorem Spr.ne {sp p : Addr} {H : Hp} (z : Spr H sp) (h : H p = none) : p ≠ sp := by
  obtain ⟨_, _, _, h1, _⟩ := z
  exact fun e => by rw [e, h1] at h; cases h
instance (s : Str) : Decidable (KindOk s) := by
  unfold KindOk
  infer_instance
section
variable {P : Program} {w : World} {K : PySem.W.Frag} {mg : Str → Option Value} {base : Heap}
end
end UP

set_option Elab.async false
set_option linter.all false
set_option maxRecDepth 100000
set_option maxHeartbeats 4000000
namespace UP
open PySem PySem.Spec PyProof.Rows L2
theorem pe_bmK {X : Cx} {K : PySem.W.Frag} {e : Expr} {c : String} {r : V → List V → Hp → VK → Prop} {to : TE} {t : TA} (h : X.K = K) (p : PE X e (tBM X.K c r to t)) : PE X e (tBM K c r to t) := h ▸ p
theorem if_by {c : TT} {t u : TS} {D : Ends} {σ : L2.St} {H : Hp} (R : Bool → Hp → Prop) (h : ∀ Q' : Bool → Hp → Prop, (∀ b H', R b H' → Q' b H') → c σ H Q') (ht : ∀ H', R true H' → t D σ H') (hu : ∀ H', R false H' → u D σ H') : tIfS c t u D σ H := by
  refine h _ fun b H' r => ?_
  cases b with
  | true => exact iteT (ht H' r)
  | false => exact iteF (hu H' r)
theorem erase_map {α β : Type} (f : α → β) : ∀ (l : List α) (i : Nat), (l.map f).eraseIdx i = (l.eraseIdx i).map f
  | [], _ => rfl
  | x :: t, 0 => rfl
  | x :: t, i + 1 => by
    simp only [List.map_cons, List.eraseIdx_cons_succ]
    rw [erase_map f t i]
def eight : List Str := ["a", "b", "c", "ab", "zz", "abcdefgh", "aa", "z"]
theorem eight_ok : ∀ s ∈ eight, KindOk s := by decide +kernel
theorem alt_snoc {l : List Run} {x : Run} (h : Alt l) (k : ∀ y, l[l.length - 1]? = some y → y.1 ≠ x.1) : Alt (l ++ [x]) := by
  intro i a b ha hb
  by_cases h1 : i + 1 < l.length
  · rw [List.getElem?_append_left (by omega)] at ha
    rw [List.getElem?_append_left h1] at hb
    exact h i a b ha hb
  · by_cases h2 : i + 1 = l.length
    · rw [List.getElem?_append_left (by omega)] at ha
      rw [List.getElem?_append_right (by omega), h2, Nat.sub_self] at hb
      cases hb
      rw [show i = l.length - 1 by omega] at ha
      exact k a ha
    · rw [List.getElem?_append_right (by omega)] at hb
      rw [List.getElem?_eq_none (by simp; omega)] at hb
      cases hb
theorem pow62 {x : Int} (h0 : 0 ≤ x) (h1 : x ≤ 1000000) : -(2 ^ 62) ≤ x ∧ x < 2 ^ 62 := by omega
theorem wide8 {m : Int} (h0 : 0 ≤ m) (h1 : m ≤ 1000000000000000000000000000000000000000000000000000000000000) : m.natAbs < 2 ^ 8000 :=
  Nat.lt_of_lt_of_le (show m.natAbs < 2 ^ 256 by omega) (Nat.pow_le_pow_right (by decide) (by decide))
section
variable {P : Program} {w : World} {K : PySem.W.Frag} {mg : Str → Option Value} {base : Heap}
end
end UP

set_option Elab.async false
set_option linter.all false
set_option maxRecDepth 100000
set_option maxHeartbeats 4000000
namespace UP
open PySem PySem.Spec PyProof.Rows L2
def scR (t : Int) (rs : List Run) : List Run := rs.map fun r => (r.1, r.2 * t)
def toldR (ws : List Run) : Option Run := match ws with
  | [] => none
  | r :: _ => some (r.1, (ws.length : Int))
def repR (k : Str) (n : Int) : Option Run := if n = 0 then none else some (k, n)
theorem repR_zero (k : Str) : repR k 0 = none := if_pos rfl
theorem repR_pos {k : Str} {n : Int} (h : 0 < n) : repR k n = some (k, n) := if_neg (by omega)
def PosO (st : Option Run) : Prop := ∀ r, st = some r → 1 ≤ r.2
theorem stepR_pos {st : Option Run} {k : Str} {c : Int} (h : PosO st) (hc : 1 ≤ c) : PosO (stepR st k c) := by
  intro r e
  cases st with
  | none =>
    cases e
    exact hc
  | some x =>
    have hx := h x rfl
    have e : (if x.1 = k then some (k, x.2 + c) else if 0 < x.2 - c then some (x.1, x.2 - c) else if x.2 - c = 0 then none else some (k, -(x.2 - c))) = some r := e
    by_cases h1 : x.1 = k
    · rw [if_pos h1] at e
      cases e
      show 1 ≤ x.2 + c
      omega
    · rw [if_neg h1] at e
      by_cases h2 : 0 < x.2 - c
      · rw [if_pos h2] at e
        cases e
        show 1 ≤ x.2 - c
        omega
      · rw [if_neg h2] at e
        by_cases h3 : x.2 - c = 0
        · rw [if_pos h3] at e
          cases e
        · rw [if_neg h3] at e
          cases e
          show 1 ≤ -(x.2 - c)
          omega
theorem stR_cons (r : Run) (l : List Run) (st : Option Run) : stR (r :: l) st = stR l (stepR st r.1 r.2) := rfl
theorem stR_pos : ∀ {rs : List Run} {st : Option Run}, PosO st → (∀ r ∈ rs, 1 ≤ r.2) → PosO (stR rs st)
  | [], _, h, _ => h
  | r :: t, st, h, k => by
    rw [stR_cons]
    exact stR_pos (stepR_pos h (k r (List.mem_cons_self ..))) fun x hx => k x (List.mem_cons_of_mem _ hx)
theorem StOk.pos {st : Option Run} (h : StOk st) : PosO st := fun r e => (h r e).2
section
variable {P : Program} {w : World} {K : PySem.W.Frag} {mg : Str → Option Value} {base : Heap}
end
end UP

set_option Elab.async false
set_option linter.all false
set_option maxRecDepth 100000
set_option maxHeartbeats 4000000
namespace UP
open PySem PySem.Spec PyProof.Rows L2
/-! ### plain data, by depth -/
def Dsc (v : V) (d : PyData) : Prop := (v = .non ∧ d = .none) ∨ (∃ b, v = .bl b ∧ d = .bool b) ∨ (∃ i, v = .int i ∧ d = .int i) ∨ ∃ s, v = .str s ∧ d = .str s
def Dt (H : Hp) : Nat → V → PyData → Prop
  | 0, v, d => Dsc v d
  | n + 1, v, d => Dsc v d ∨ (∃ a xs ds, v = .ref a ∧ H a = some (.lst xs) ∧ d = .list ds ∧ Paired (Dt H n) xs ds ∧ ds.length ≤ 100000) ∨ ∃ a xs ds, v = .ref a ∧ H a = some (.tup xs) ∧ d = .tuple ds ∧ Paired (Dt H n) xs ds ∧ ds.length ≤ 100000
theorem Dt.same {H H' : Hp} (s : Same H H') : ∀ {n : Nat} {v : V} {d : PyData}, Dt H n v d → Dt H' n v d
  | 0, _, _, h => h
  | n + 1, v, d, h => by
    rcases h with h | ⟨a, xs, ds, e, h, e2, p, l⟩ | ⟨a, xs, ds, e, h, e2, p, l⟩
    · exact .inl h
    · exact .inr (.inl ⟨a, xs, ds, e, s _ _ h, e2, Paired.imp (fun _ _ z => Dt.same s z) p, l⟩)
    · exact .inr (.inr ⟨a, xs, ds, e, s _ _ h, e2, Paired.imp (fun _ _ z => Dt.same s z) p, l⟩)
theorem dsc_ref {a : Addr} {d : PyData} (h : Dsc (.ref a) d) : False := by
  rcases h with ⟨h, _⟩ | ⟨_, h, _⟩ | ⟨_, h, _⟩ | ⟨_, h, _⟩ <;> cases h
theorem dsc_lst {v : V} {ds : List PyData} (h : Dsc v (.list ds)) : False := by
  rcases h with ⟨_, h⟩ | ⟨_, _, h⟩ | ⟨_, _, h⟩ | ⟨_, _, h⟩ <;> cases h
theorem dsc_tup {v : V} {ds : List PyData} (h : Dsc v (.tuple ds)) : False := by
  rcases h with ⟨_, h⟩ | ⟨_, _, h⟩ | ⟨_, _, h⟩ | ⟨_, _, h⟩ <;> cases h
theorem dsc_one {v v' : V} {d : PyData} (h : Dsc v d) (h' : Dsc v' d) : v = v' := by
  rcases h with ⟨e, z⟩ | ⟨x, e, z⟩ | ⟨x, e, z⟩ | ⟨x, e, z⟩ <;> subst z <;> rcases h' with ⟨e', z⟩ | ⟨y, e', z⟩ | ⟨y, e', z⟩ | ⟨y, e', z⟩ <;> cases z <;> rw [e, e']
theorem kit_no {K : PySem.W.Frag} {c : String} (h1 : kitB c "list" = some false) (h2 : kitB c "tuple" = some false) : PySem.W.kitAny K (.type c) [.type "list", .type "tuple"] = some false :=
  kitAny_cons (b := false) (kit_ty h1) (fun _ => kitAny_cons (b := false) (kit_ty h2) (fun _ => rfl) (fun z => nomatch z)) (fun z => nomatch z)
theorem ixL {K : PySem.W.Frag} {x y : V} {H : Hp} {Q : VK} (h : rIxL K x y H Q) : rIx K x y H Q := .inl h
theorem ixT {K : PySem.W.Frag} {x y : V} {H : Hp} {Q : VK} (h : rIxT K x y H Q) : rIx K x y H Q := .inr (.inl h)
section
variable {P : Program} {w : World} {K : PySem.W.Frag} {mg : Str → Option Value} {base : Heap}
end
end UP

set_option Elab.async false
set_option linter.all false
set_option maxRecDepth 100000
set_option maxHeartbeats 4000000
namespace UP
open PySem PySem.Spec PyProof.Rows L2
/-! ### a walk over one object that stays, whatever else is changed -/
structure WkA (J : It) (H : Hp) (a : Addr) (xs : List V) : Prop where
  go : ∀ i H', H' a = H a → i < xs.length → J.go i H'
  stop : ∀ H', H' a = H a → J.stop xs.length H'
  yld : ∀ i x H' H'', H' a = H a → J.yld i H' x H'' → H'' = H' ∧ xs[i]? = some x
def iSeqA (i : Nat) : TI := fun σ H R => ∃ a xs, σ[i]? = some (some (.ref a)) ∧ Sq2 H a xs ∧ ∀ J, WkA J H a xs → R J H
section
variable {X : Cx}
theorem wka_list {K : PySem.W.Frag} {H : Hp} {a : Addr} {xs : List V} (h : H a = some (.lst xs)) : WkA (Itl K a) H a xs :=
  ⟨fun i H' e hi => ⟨xs, xs[i], .of (e.trans h), List.getElem?_eq_getElem hi⟩, fun H' e => ⟨xs, .of (e.trans h), Nat.le_refl _⟩, fun i x H' H'' e y => ⟨y.1, y.2 xs (.of (e.trans h))⟩⟩
theorem wka_tup {K : PySem.W.Frag} {H : Hp} {a : Addr} {xs : List V} (h : H a = some (.tup xs)) : WkA (Itt K a) H a xs :=
  ⟨fun i H' e hi => ⟨xs, xs[i], .of (e.trans h), List.getElem?_eq_getElem hi⟩, fun H' e => ⟨xs, .of (e.trans h), Nat.le_refl _⟩, fun i x H' H'' e y => ⟨y.1, y.2 xs (.of (e.trans h))⟩⟩
theorem pi_seqA (i : Nat) {x : Str} {pos : Pos} {tg : Expr} (hN : X.N[i]? = some x := by rfl) (hv : Vis X.env.scope x := by first | exact Or.inl rfl | exact Or.inr (Or.inl rfl) | exact Or.inr (Or.inr rfl)) (hd : (x == ("__debug__" : Str)) = false := by decide)
    (hc : (x == ("__classdict__" : Str)) = false := by decide) : PI X tg (.Name x pos) (iSeqA i) := by
  refine ⟨fun pins s σ H R I hw => ?_⟩
  obtain ⟨a, xs, e, h, k⟩ := hw
  rcases h with h | h
  · exact (pi_list (pe_var hN hv hd hc)).run pins s σ H R I ⟨_, e, a, rfl, ⟨xs, .of h⟩, k _ (wka_list h)⟩
  · exact (pi_tup (pe_var hN hv hd hc)).run pins s σ H R I ⟨_, e, a, rfl, ⟨xs, .of h⟩, k _ (wka_tup h)⟩
end
theorem lc_wka {J : It} {H0 H1 : Hp} {a : Addr} {xs : List V} {g : TG} {tt : TT} {te : TE} {vs : List Nat} {σ : L2.St} {D : Addr} {Qd : Hp → Prop} (wk : WkA J H0 a xs) (Pv : Nat → Hp → Prop) (hsm : ∀ i H, Pv i H → H a = H0 a) (h0 : Pv 0 (upd H1 D (.lst [])))
    (hs : ∀ i x H, xs[i]? = some x → Pv i H → g x (wipe σ vs) H fun σ2 H2 => wipe σ2 vs = wipe σ vs ∧ tt σ2 H2 fun b H3 =>
      if b = true then te σ2 H3 fun y H4 => ∃ acc, H4 D = some (.lst acc) ∧ acc.length < sizeLine ∧ Pv (i + 1) (upd H4 D (.lst (acc ++ [y]))) else Pv (i + 1) H3) (hd : ∀ H, Pv xs.length H → Qd H) :
    ∃ W : Nat → Nat → Hp → Prop, (∃ m, W 0 m (upd H1 D (.lst []))) ∧ ∀ i m H, W i m H →
      (J.stop i H ∧ Qd H) ∨ (J.go i H ∧ ∃ Nx : Hp → Prop, (∀ H', Nx H' → ∃ m', m' < m ∧ W (i + 1) m' H') ∧ ∀ x H', J.yld i H x H' → g x (wipe σ vs) H' fun σ2 H2 => wipe σ2 vs = wipe σ vs ∧ tt σ2 H2 fun b H3 =>
        if b = true then te σ2 H3 fun y H4 => ∃ acc, H4 D = some (.lst acc) ∧ acc.length < sizeLine ∧ Nx (upd H4 D (.lst (acc ++ [y]))) else Nx H3) := by
  refine lc_gen Pv h0 (fun i H hi p => wk.go i H (hsm i H p) hi) (fun H p => wk.stop H (hsm _ H p)) (fun i x H H' hi p y => ?_) hd
  obtain ⟨e, ex⟩ := wk.yld i x H H' (hsm i H p) y
  subst e
  exact hs i x _ ex p
theorem for_gen {J : It} {n : Nat} {H : Hp} {g : TG} {tb : TS} {D : Ends} {σ : L2.St} (Pv : Nat → L2.St → Hp → Prop) (h0 : Pv 0 σ H) (hg : ∀ i σ H, i < n → Pv i σ H → J.go i H) (hst : ∀ σ H, Pv n σ H → J.stop n H)
    (hs : ∀ i x σ H H', i < n → Pv i σ H → J.yld i H x H' → g x σ H' fun σ2 H2 => tb { D with nx := Pv (i + 1), ct := Pv (i + 1), bk := D.nx } σ2 H2) (hd : ∀ σ H, Pv n σ H → D.nx σ H) :
    ∃ W : Nat → Nat → L2.St → Hp → Prop, (∃ m, W 0 m σ H) ∧ ∀ i m σ H, W i m σ H →
      (J.stop i H ∧ D.nx σ H) ∨ (J.go i H ∧ ∃ N : L2.St → Hp → Prop, (∀ σ' H', N σ' H' → ∃ m', m' < m ∧ W (i + 1) m' σ' H') ∧ ∀ x H', J.yld i H x H' → g x σ H' fun σ2 H2 => tb { D with nx := N, ct := N, bk := D.nx } σ2 H2) := by
  refine ⟨fun i m σ H => m = n - i ∧ i ≤ n ∧ Pv i σ H, ⟨n, by omega, Nat.zero_le _, h0⟩, ?_⟩
  rintro i m σ H ⟨rfl, hi, p⟩
  by_cases hlt : i < n
  · exact Or.inr ⟨hg i σ H hlt p, Pv (i + 1), fun σ' H' p' => ⟨n - (i + 1), by omega, rfl, hlt, p'⟩, fun x H' y => hs i x σ H H' hlt p y⟩
  · have e : i = n := by omega
    subst e
    exact Or.inl ⟨hst σ H p, hd σ H p⟩
theorem for_wka {J : It} {H0 H : Hp} {a : Addr} {xs : List V} {g : TG} {tb : TS} {D : Ends} {σ : L2.St} (wk : WkA J H0 a xs) (Pv : Nat → L2.St → Hp → Prop) (hsm : ∀ i σ H, Pv i σ H → H a = H0 a) (h0 : Pv 0 σ H)
    (hs : ∀ i x σ H, xs[i]? = some x → Pv i σ H → g x σ H fun σ2 H2 => tb { D with nx := Pv (i + 1), ct := Pv (i + 1), bk := D.nx } σ2 H2) (hd : ∀ σ H, Pv xs.length σ H → D.nx σ H) :
    ∃ W : Nat → Nat → L2.St → Hp → Prop, (∃ m, W 0 m σ H) ∧ ∀ i m σ H, W i m σ H →
      (J.stop i H ∧ D.nx σ H) ∨ (J.go i H ∧ ∃ N : L2.St → Hp → Prop, (∀ σ' H', N σ' H' → ∃ m', m' < m ∧ W (i + 1) m' σ' H') ∧ ∀ x H', J.yld i H x H' → g x σ H' fun σ2 H2 => tb { D with nx := N, ct := N, bk := D.nx } σ2 H2) := by
  refine for_gen Pv h0 (fun i σ H hi p => wk.go i H (hsm i σ H p) hi) (fun σ H p => wk.stop H (hsm _ σ H p)) (fun i x σ H H' hi p y => ?_) hd
  obtain ⟨e, ex⟩ := wk.yld i x H H' (hsm i σ H p) y
  subst e
  exact hs i x σ _ ex p
theorem Sq2.eq {H H' : Hp} {a : Addr} {xs : List V} (h : Sq2 H a xs) (s : Same H H') : H' a = H a := h.elim (fun z => (s _ _ z).trans z.symm) (fun z => (s _ _ z).trans z.symm)
/-! ### data without its dress -/
def Sim (N : Addr → Prop) (H : Hp) : Nat → V → PyData → Prop
  | 0, v, d => Dsc v d
  | n + 1, v, d => Dsc v d ∨ ∃ a xs ds, v = .ref a ∧ N a ∧ Sq2 H a xs ∧ d = .list ds ∧ Paired (Sim N H n) xs ds ∧ ds.length ≤ 1000
theorem Sim.keep {N N' : Addr → Prop} {H H' : Hp} (hn : ∀ a, N a → N' a) (hk : ∀ a o, N a → H a = some o → H' a = some o) : ∀ {n : Nat} {v : V} {d : PyData}, Sim N H n v d → Sim N' H' n v d
  | 0, _, _, h => h
  | n + 1, v, d, h => by
    rcases h with h | ⟨a, xs, ds, e, na, hx, e2, p, l⟩
    · exact .inl h
    · exact .inr ⟨a, xs, ds, e, hn a na, hx.elim (fun z => .inl (hk _ _ na z)) (fun z => .inr (hk _ _ na z)), e2, Paired.imp (fun _ _ z => Sim.keep hn hk z) p, l⟩
theorem Sim.dsc {N : Addr → Prop} {H : Hp} {v : V} {d : PyData} : ∀ {n : Nat}, Dsc v d → Sim N H n v d
  | 0, h => h
  | n + 1, h => .inl h
section
variable {P : Program} {w : World} {K : PySem.W.Frag} {mg : Str → Option Value} {base : Heap}
end
end UP

set_option Elab.async false
set_option linter.all false
set_option maxRecDepth 100000
set_option maxHeartbeats 4000000
namespace UP
open PySem PySem.Spec PyProof.Rows L2
/-! ### waiting items one by one -/
def plS (ws : List Run) (k : Str) (n : Nat) : List Run := match ws with
  | [] => [(k, (n : Int))]
  | r :: t => if r.1 = k then (r :: t) ++ [(k, (n : Int))] else t
def plP (ws : List Run) (k : Str) (n : Nat) : List (Int × Int) := match ws with
  | [] => []
  | r :: _ => if r.1 = k then [] else [(r.2, (n : Int))]
def plA (ws : List Run) (n : Nat) : List Str → List Run
  | [] => ws
  | k :: t => plA (plS ws k n) (n + 1) t
def psR (ws : List Run) (n : Nat) : List Str → List (Int × Int)
  | [] => []
  | k :: t => plP ws k n ++ psR (plS ws k n) (n + 1) t
theorem plA_snoc : ∀ (l : List Str) (ws : List Run) (n : Nat) (k : Str), plA ws n (l ++ [k]) = plS (plA ws n l) k (n + l.length)
  | [], ws, n, k => rfl
  | x :: t, ws, n, k => by
    show plA (plS ws x n) (n + 1) (t ++ [k]) = plS (plA (plS ws x n) (n + 1) t) k (n + (x :: t).length)
    rw [plA_snoc t, List.length_cons, show n + 1 + t.length = n + (t.length + 1) by omega]
theorem psR_snoc : ∀ (l : List Str) (ws : List Run) (n : Nat) (k : Str), psR ws n (l ++ [k]) = psR ws n l ++ plP (plA ws n l) k (n + l.length)
  | [], ws, n, k => by
    show plP ws k n ++ [] = [] ++ plP ws k (n + 0)
    rw [List.append_nil, List.nil_append, Nat.add_zero]
  | x :: t, ws, n, k => by
    show plP ws x n ++ psR (plS ws x n) (n + 1) (t ++ [k]) = (plP ws x n ++ psR (plS ws x n) (n + 1) t) ++ plP (plA (plS ws x n) (n + 1) t) k (n + (x :: t).length)
    rw [psR_snoc t, List.length_cons, List.append_assoc, show n + 1 + t.length = n + (t.length + 1) by omega]
def plMs (ws : List Run) (ks : List Str) : List (List Run) := (List.range (ks.length + 1)).map fun m => plA ws 0 (ks.take m)
theorem plMs_snoc (ws : List Run) (l : List Str) (k : Str) : plMs ws (l ++ [k]) = plMs ws l ++ [plA ws 0 (l ++ [k])] := by
  unfold plMs
  rw [List.length_append, List.length_cons, List.length_nil, Nat.zero_add, List.range_succ, List.map_append]
  congr 1
  · refine List.map_congr_left fun m hm => ?_
    have : m ≤ l.length := by
      have := List.mem_range.mp hm
      omega
    rw [List.take_append_of_le_length this]
  · rw [List.map_singleton, List.take_of_length_le (by rw [List.length_append]; exact Nat.le_refl _)]
theorem plMs_nil (ws : List Run) : plMs ws [] = [ws] := rfl
theorem plMs_len (ws : List Run) (l : List Str) : (plMs ws l).length = l.length + 1 := by
  unfold plMs
  rw [List.length_map, List.length_range]
theorem plS_len (ws : List Run) (k : Str) (n : Nat) : (plS ws k n).length ≤ ws.length + 1 := by
  cases ws with
  | nil => exact Nat.le_refl _
  | cons r t =>
    show (if r.1 = k then (r :: t) ++ [(k, (n : Int))] else t).length ≤ _
    split
    · rw [List.length_append]
      exact Nat.le_refl _
    · rw [List.length_cons]
      omega
theorem plA_len : ∀ (l : List Str) (ws : List Run) (n : Nat), (plA ws n l).length ≤ ws.length + l.length
  | [], ws, n => Nat.le_refl _
  | k :: t, ws, n => by
    have h1 := plA_len t (plS ws k n) (n + 1)
    have h2 := plS_len ws k n
    show (plA (plS ws k n) (n + 1) t).length ≤ _
    rw [List.length_cons]
    omega
theorem plP_len (ws : List Run) (k : Str) (n : Nat) : (plP ws k n).length ≤ 1 := by
  cases ws with
  | nil => exact Nat.zero_le _
  | cons r t =>
    show (if r.1 = k then [] else [(r.2, (n : Int))]).length ≤ 1
    split <;> simp
theorem psR_len : ∀ (l : List Str) (ws : List Run) (n : Nat), (psR ws n l).length ≤ l.length
  | [], ws, n => Nat.le_refl _
  | k :: t, ws, n => by
    have h1 := psR_len t (plS ws k n) (n + 1)
    have h2 := plP_len ws k n
    show (plP ws k n ++ psR (plS ws k n) (n + 1) t).length ≤ _
    rw [List.length_append, List.length_cons]
    omega
theorem plS_kinds {ws : List Run} {k : Str} {n : Nat} (h : ∀ r ∈ ws, KindOk r.1) (hk : KindOk k) : ∀ r ∈ plS ws k n, KindOk r.1 := by
  intro r hr
  cases ws with
  | nil =>
    rw [List.mem_singleton.mp (show r ∈ [(k, (n : Int))] from hr)]
    exact hk
  | cons x t =>
    have hr : r ∈ (if x.1 = k then (x :: t) ++ [(k, (n : Int))] else t) := hr
    by_cases e : x.1 = k
    · rw [if_pos e] at hr
      rcases List.mem_append.mp hr with z | z
      · exact h r z
      · rw [List.mem_singleton.mp z]
        exact hk
    · rw [if_neg e] at hr
      exact h r (List.mem_cons_of_mem _ hr)
theorem plA_kinds : ∀ {l : List Str} {ws : List Run} {n : Nat}, (∀ r ∈ ws, KindOk r.1) → (∀ k ∈ l, KindOk k) → ∀ r ∈ plA ws n l, KindOk r.1
  | [], _, _, h, _ => h
  | k :: t, ws, n, h, hl => plA_kinds (l := t) (plS_kinds h (hl k (List.mem_cons_self ..))) fun x hx => hl x (List.mem_cons_of_mem _ hx)
def w0R : Option Run → List Run
  | none => []
  | some r => List.replicate r.2.toNat (r.1, -1)
def itR (rs : List Run) : List Str := rs.flatMap fun r => List.replicate r.2.toNat r.1
theorem itR_snoc (l : List Run) (r : Run) : itR (l ++ [r]) = itR l ++ List.replicate r.2.toNat r.1 := by
  unfold itR
  rw [List.flatMap_append]
  simp
def PV (H : Hp) (v : V) (p : Int × Int) : Prop := ∃ t, v = .ref t ∧ H t = some (.tup [.int p.1, .int p.2])
theorem PV.same {H H' : Hp} {v : V} {p : Int × Int} (s : Same H H') (h : PV H v p) : PV H' v p := by
  obtain ⟨t, e, h⟩ := h
  exact ⟨t, e, s _ _ h⟩
theorem PV.grow {H : Hp} {D : Addr} {acc acc' : List V} {v : V} {p : Int × Int} (hD : H D = some (.lst acc)) (h : PV H v p) : PV (upd H D (.lst acc')) v p := by
  obtain ⟨t, e, h⟩ := h
  refine ⟨t, e, ?_⟩
  rw [upd_ne (ne_of h hD (by intro q; cases q))]
  exact h
theorem Runs.grow {H : Hp} {D a : Addr} {acc acc' : List V} {ws : List Run} (hD : H D = some (.lst acc)) (n : a ≠ D) (h : Runs H a ws) : Runs (upd H D (.lst acc')) a ws := by
  obtain ⟨xs, hx, hp⟩ := h
  refine ⟨xs, ?_, prs_grow hD hp⟩
  rw [upd_ne n]
  exact hx
/-- a list of runs apart from two others -/
def WL (H : Hp) (M N : Addr) (v : V) (ws : List Run) : Prop := ∃ a, v = .ref a ∧ a ≠ M ∧ a ≠ N ∧ Runs H a ws
theorem WL.same {H H' : Hp} {M N : Addr} {v : V} {ws : List Run} (s : Same H H') (h : WL H M N v ws) : WL H' M N v ws := by
  obtain ⟨a, e, n1, n2, h⟩ := h
  exact ⟨a, e, n1, n2, h.same s⟩
/-- what the play keeps -/
structure Pl (H0 H : Hp) (W M N : Addr) (ws0 : List Run) (ks ls : List Str) : Prop where
  sm : Same H0 H
  wm : W ≠ M
  wn : W ≠ N
  wr : Runs H W (plA ws0 0 ls)
  ms : ∃ xs, H M = some (.lst xs) ∧ Paired (WL H M N) xs (plMs ws0 ks)
  ps : ∃ ys, H N = some (.lst ys) ∧ Paired (PV H) ys (psR ws0 0 ls)
theorem flat_one {α : Type} (x : α) : ∀ n : Nat, (List.replicate n [x]).flatten = List.replicate n x
  | 0 => rfl
  | n + 1 => by
    rw [List.replicate_succ, List.flatten_cons, flat_one x n]
    rfl
theorem paired_rep {α β : Type} {F : α → β → Prop} {a : α} {b : β} (h : F a b) : ∀ n : Nat, Paired F (List.replicate n a) (List.replicate n b)
  | 0 => .nil
  | n + 1 => .cons h (paired_rep h n)
theorem len_items {rs : List Run} (h : ∀ r ∈ rs, 1 ≤ r.2 ∧ r.2 ≤ 1000) : (itR rs).length ≤ 1000 * rs.length := by
  induction rs with
  | nil => exact Nat.le_refl _
  | cons r t ih =>
    have e : itR (r :: t) = List.replicate r.2.toNat r.1 ++ itR t := rfl
    have h1 := h r (List.mem_cons_self ..)
    have h2 := ih fun x hx => h x (List.mem_cons_of_mem _ hx)
    rw [e, List.length_append, List.length_replicate, List.length_cons]
    omega
end UP

set_option Elab.async false
set_option linter.all false
set_option maxRecDepth 100000
set_option maxHeartbeats 4000000
namespace UP
open PySem PySem.Spec PyProof.Rows L2
section
variable {P : Program} {w : World} {K : PySem.W.Frag} {mg : Str → Option Value} {base : Heap}
end
end UP

set_option Elab.async false
set_option linter.all false
set_option maxRecDepth 100000
set_option maxHeartbeats 4000000
namespace UP
open PySem PySem.Spec PyProof.Rows L2
/-! ### one arrival after the other -/
def stI (ks : List Str) (st : Option Run) : Option Run := ks.foldl (fun s k => stepR s k 1) st
theorem stI_app (l m : List Str) (st : Option Run) : stI (l ++ m) st = stI m (stI l st) := List.foldl_append ..
theorem step_same {r : Run} {k : Str} {c : Int} (h : r.1 = k) : stepR (some r) k c = some (k, r.2 + c) := if_pos h
theorem step_other {r : Run} {k : Str} {c : Int} (h : r.1 ≠ k) : stepR (some r) k c = if 0 < r.2 - c then some (r.1, r.2 - c) else if r.2 - c = 0 then none else some (k, -(r.2 - c)) := if_neg h
theorem step_step {s : Option Run} {k : Str} {c : Int} (h : PosO s) (hc : 1 ≤ c) : stepR (stepR s k 1) k c = stepR s k (1 + c) := by
  cases s with
  | none => exact step_same (r := (k, 1)) rfl
  | some r =>
    have r1 := h r rfl
    by_cases e : r.1 = k
    · rw [step_same e, step_same e, step_same (r := (k, r.2 + 1)) rfl]
      show some (k, r.2 + 1 + c) = _
      rw [Int.add_assoc]
    · rw [step_other e, step_other e]
      by_cases h1 : 0 < r.2 - 1
      · rw [if_pos h1, step_other (r := (r.1, r.2 - 1)) e]
        show (if 0 < r.2 - 1 - c then some (r.1, r.2 - 1 - c) else if r.2 - 1 - c = 0 then none else some (k, -(r.2 - 1 - c))) = _
        rw [show r.2 - 1 - c = r.2 - (1 + c) by omega]
      · have e2 : r.2 - 1 = 0 := by omega
        rw [if_neg h1, if_pos e2, if_neg (by omega), if_neg (by omega)]
        show some (k, c) = _
        rw [show -(r.2 - (1 + c)) = c by omega]
theorem it_step : ∀ (n : Nat) (s : Option Run) (k : Str), PosO s → stI (List.replicate (n + 1) k) s = stepR s k ((n : Int) + 1)
  | 0, s, k, _ => rfl
  | n + 1, s, k, h => by
    show stI (List.replicate (n + 1) k) (stepR s k 1) = _
    rw [it_step n _ k (stepR_pos h (by decide)), step_step h (by omega)]
    congr 1
    omega
theorem st_items : ∀ (rs : List Run) (st : Option Run), PosO st → (∀ r ∈ rs, 1 ≤ r.2) → stR rs st = stI (itR rs) st
  | [], st, _, _ => rfl
  | r :: t, st, h, k => by
    have c1 := k r (List.mem_cons_self ..)
    have e : itR (r :: t) = List.replicate r.2.toNat r.1 ++ itR t := rfl
    obtain ⟨n, hn⟩ : ∃ n : Nat, r.2.toNat = n + 1 := ⟨r.2.toNat - 1, by omega⟩
    rw [e, stI_app, hn, it_step n _ _ h, stR_cons, show ((n : Int) + 1) = r.2 by omega]
    exact st_items t _ (stepR_pos h c1) fun x hx => k x (List.mem_cons_of_mem _ hx)
theorem take_app {α : Type} : ∀ (l m : List α) (n : Nat), (l ++ m).take n = l.take n ++ m.take (n - l.length)
  | [], m, n => by
    rw [List.nil_append, List.take_nil, List.nil_append, List.length_nil, Nat.sub_zero]
  | x :: t, m, 0 => by
    rw [List.take_zero, List.take_zero, Nat.zero_sub, List.take_zero]
    rfl
  | x :: t, m, n + 1 => by
    rw [List.cons_append, List.take_succ_cons, take_app t m n, List.take_succ_cons, List.length_cons, Nat.add_sub_add_right]
    rfl
theorem it_app (l m : List Run) : itR (l ++ m) = itR l ++ itR m := List.flatMap_append ..
theorem cut_items (e : Int) : ∀ (rs : List Run) (b : Int), 0 ≤ b → (∀ r ∈ rs, 1 ≤ r.2) → itR (cutR 0 e b rs) = (itR rs).take (e - b).toNat
  | [], b, _, _ => by
    show ([] : List Str) = ([] : List Str).take _
    rw [List.take_nil]
  | r :: t, b, hb, k => by
    have c1 := k r (List.mem_cons_self ..)
    have ih := cut_items e t (b + r.2) (by omega) fun x hx => k x (List.mem_cons_of_mem _ hx)
    have e1 : cutR 0 e b (r :: t) = pieceR b 0 e r ++ cutR 0 e (b + r.2) t := rfl
    have e2 : itR (r :: t) = List.replicate r.2.toNat r.1 ++ itR t := rfl
    rw [e1, it_app, ih, e2, take_app, List.length_replicate, List.take_replicate, show (e - (b + r.2)).toNat = (e - b).toNat - r.2.toNat by omega]
    congr 1
    have es : sizeR b 0 e r.2 = (if b + r.2 < e then b + r.2 else e) - b := by
      unfold sizeR
      by_cases h0 : b > 0
      · rw [if_pos h0]
      · rw [if_neg h0, show b = 0 by omega]
    by_cases hs : 0 < sizeR b 0 e r.2
    · rw [show pieceR b 0 e r = [(r.1, sizeR b 0 e r.2)] from if_pos hs]
      show List.replicate (sizeR b 0 e r.2).toNat r.1 ++ [] = _
      rw [List.append_nil]
      congr 1
      rw [es] at hs ⊢
      split <;> omega
    · rw [show pieceR b 0 e r = [] from if_neg hs]
      rw [es] at hs
      rw [show min (e - b).toNat r.2.toNat = 0 by split at hs <;> omega]
      rfl
theorem len_it : ∀ (rs : List Run), (∀ r ∈ rs, 1 ≤ r.2) → ((itR rs).length : Int) = lenR rs
  | [], _ => rfl
  | r :: t, k => by
    have c1 := k r (List.mem_cons_self ..)
    have ih := len_it t fun x hx => k x (List.mem_cons_of_mem _ hx)
    have e2 : itR (r :: t) = List.replicate r.2.toNat r.1 ++ itR t := rfl
    rw [e2, List.length_append, List.length_replicate, lenR_cons]
    omega
/-! ### what is told of waiting items -/
def Uni (ws : List Run) : Prop := ∀ x ∈ ws, ∀ y ∈ ws, x.1 = y.1
theorem uni_plS {ws : List Run} {k : Str} {n : Nat} (h : Uni ws) : Uni (plS ws k n) := by
  cases ws with
  | nil =>
    intro x hx y hy
    rw [List.mem_singleton.mp (show x ∈ [(k, (n : Int))] from hx), List.mem_singleton.mp (show y ∈ [(k, (n : Int))] from hy)]
  | cons r t =>
    by_cases e : r.1 = k
    · rw [show plS (r :: t) k n = (r :: t) ++ [(k, (n : Int))] from if_pos e]
      have all : ∀ x ∈ (r :: t) ++ [(k, (n : Int))], x.1 = k := by
        intro x hx
        rcases List.mem_append.mp hx with z | z
        · rw [h x z r (List.mem_cons_self ..)]
          exact e
        · rw [List.mem_singleton.mp z]
      intro x hx y hy
      rw [all x hx, all y hy]
    · rw [show plS (r :: t) k n = t from if_neg e]
      exact fun x hx y hy => h x (List.mem_cons_of_mem _ hx) y (List.mem_cons_of_mem _ hy)
theorem told_plS {ws : List Run} {k : Str} {n : Nat} (h : Uni ws) : toldR (plS ws k n) = stepR (toldR ws) k 1 := by
  cases ws with
  | nil => rfl
  | cons r t =>
    by_cases e : r.1 = k
    · rw [show plS (r :: t) k n = (r :: t) ++ [(k, (n : Int))] from if_pos e]
      show some (r.1, (((r :: t) ++ [(k, (n : Int))]).length : Int)) = stepR (some (r.1, ((r :: t).length : Int))) k 1
      rw [step_same (r := (r.1, ((r :: t).length : Int))) e, List.length_append, e]
      show some (k, (((r :: t).length + 1 : Nat) : Int)) = some (k, ((r :: t).length : Int) + 1)
      rw [Int.natCast_add]
      rfl
    · rw [show plS (r :: t) k n = t from if_neg e]
      show toldR t = stepR (some (r.1, ((r :: t).length : Int))) k 1
      rw [step_other (r := (r.1, ((r :: t).length : Int))) e]
      cases t with
      | nil => rfl
      | cons x u =>
        have ex : x.1 = r.1 := h x (List.mem_cons_of_mem _ (List.mem_cons_self ..)) r (List.mem_cons_self ..)
        show some (x.1, ((x :: u).length : Int)) = if 0 < ((r :: x :: u).length : Int) - 1 then some (r.1, ((r :: x :: u).length : Int) - 1) else _
        rw [List.length_cons, List.length_cons, List.length_cons, if_pos (by omega), ex]
        congr 2
        omega
theorem told_plA : ∀ (l : List Str) (ws : List Run) (n : Nat), Uni ws → toldR (plA ws n l) = stI l (toldR ws)
  | [], _, _, _ => rfl
  | k :: t, ws, n, h => by
    show toldR (plA (plS ws k n) (n + 1) t) = stI t (stepR (toldR ws) k 1)
    rw [told_plA t _ _ (uni_plS h), told_plS h]
theorem uni_w0 (st : Option Run) : Uni (w0R st) := by
  cases st with
  | none => intro x hx; cases hx
  | some r =>
    intro x hx y hy
    rw [List.eq_of_mem_replicate hx, List.eq_of_mem_replicate hy]
theorem told_w0 {st : Option Run} (h : PosO st) : toldR (w0R st) = st := by
  cases st with
  | none => rfl
  | some r =>
    have r1 := h r rfl
    obtain ⟨n, hn⟩ : ∃ n : Nat, r.2.toNat = n + 1 := ⟨r.2.toNat - 1, by omega⟩
    show toldR (List.replicate r.2.toNat (r.1, (-1 : Int))) = some r
    rw [hn, List.replicate_succ]
    show some (r.1, (((r.1, (-1 : Int)) :: List.replicate n (r.1, (-1 : Int))).length : Int)) = some r
    rw [List.length_cons, List.length_replicate, show ((n + 1 : Nat) : Int) = r.2 by omega]
/-! ### all counts multiplied -/
def scO (t : Int) (st : Option Run) : Option Run := st.map fun r => (r.1, r.2 * t)
theorem lt_sc {a b t : Int} (ht : 0 < t) : a * t < b * t ↔ a < b :=
  ⟨fun h => by
    by_cases z : a < b
    · exact z
    · have := Int.mul_le_mul_of_nonneg_right (show b ≤ a by omega) (Int.le_of_lt ht)
      omega, fun h => Int.mul_lt_mul_of_pos_right h ht⟩
theorem size_sc {b s e c t : Int} (ht : 0 < t) : sizeR (b * t) (s * t) (e * t) (c * t) = sizeR b s e c * t := by
  unfold sizeR
  rw [← Int.add_mul, Int.sub_mul]
  congr 1
  · by_cases h : b + c < e
    · rw [if_pos h, if_pos ((lt_sc ht).mpr h)]
    · rw [if_neg h, if_neg fun z => h ((lt_sc ht).mp z)]
  · by_cases h : b > s
    · rw [if_pos h, if_pos ((lt_sc ht).mpr h)]
    · rw [if_neg h, if_neg fun z => h ((lt_sc ht).mp z)]
theorem pos_sc {a t : Int} (ht : 0 < t) : 0 < a * t ↔ 0 < a := by
  have := lt_sc (a := 0) (b := a) ht
  rw [Int.zero_mul] at this
  exact this
theorem piece_sc {b s e t : Int} {r : Run} (ht : 0 < t) : pieceR (b * t) (s * t) (e * t) (r.1, r.2 * t) = scR t (pieceR b s e r) := by
  unfold pieceR
  show (if 0 < sizeR (b * t) (s * t) (e * t) (r.2 * t) then [(r.1, sizeR (b * t) (s * t) (e * t) (r.2 * t))] else []) = _
  rw [size_sc ht]
  by_cases h : 0 < sizeR b s e r.2
  · rw [if_pos h, if_pos ((pos_sc ht).mpr h)]
    rfl
  · rw [if_neg h, if_neg fun z => h ((pos_sc ht).mp z)]
    rfl
theorem cut_sc {s e t : Int} (ht : 0 < t) : ∀ (rs : List Run) (b : Int), cutR (s * t) (e * t) (b * t) (scR t rs) = scR t (cutR s e b rs)
  | [], _ => rfl
  | r :: u, b => by
    have ih := cut_sc (s := s) (e := e) ht u (b + r.2)
    show pieceR (b * t) (s * t) (e * t) (r.1, r.2 * t) ++ cutR (s * t) (e * t) (b * t + r.2 * t) (scR t u) = scR t (pieceR b s e r ++ cutR s e (b + r.2) u)
    rw [← Int.add_mul, ih, piece_sc ht]
    unfold scR
    rw [List.map_append]
theorem step_sc {st : Option Run} {k : Str} {c t : Int} (ht : 0 < t) : stepR (scO t st) k (c * t) = scO t (stepR st k c) := by
  cases st with
  | none => rfl
  | some r =>
    show stepR (some (r.1, r.2 * t)) k (c * t) = _
    by_cases e : r.1 = k
    · rw [step_same (r := (r.1, r.2 * t)) e, step_same e]
      show some (k, r.2 * t + c * t) = some (k, (r.2 + c) * t)
      rw [Int.add_mul]
    · rw [step_other (r := (r.1, r.2 * t)) e, step_other e]
      show (if 0 < r.2 * t - c * t then some (r.1, r.2 * t - c * t) else if r.2 * t - c * t = 0 then none else some (k, -(r.2 * t - c * t))) = _
      rw [← Int.sub_mul]
      by_cases h : 0 < r.2 - c
      · rw [if_pos h, if_pos ((pos_sc ht).mpr h)]
        rfl
      · rw [if_neg h, if_neg fun z => h ((pos_sc ht).mp z)]
        by_cases h2 : r.2 - c = 0
        · rw [if_pos h2, h2, Int.zero_mul, if_pos rfl]
          rfl
        · have h3 : (r.2 - c) * t ≠ 0 := Int.mul_ne_zero h2 (by omega)
          rw [if_neg h2, if_neg h3]
          show some (k, -((r.2 - c) * t)) = some (k, -(r.2 - c) * t)
          rw [Int.neg_mul]
theorem st_sc {t : Int} (ht : 0 < t) : ∀ (rs : List Run) (st : Option Run), stR (scR t rs) (scO t st) = scO t (stR rs st)
  | [], _ => rfl
  | r :: u, st => by
    show stR (scR t u) (stepR (scO t st) r.1 (r.2 * t)) = scO t (stR u (stepR st r.1 r.2))
    rw [step_sc ht, st_sc ht u]
theorem len_sc {t : Int} : ∀ (rs : List Run), lenR (scR t rs) = lenR rs * t
  | [] => by
    show (0 : Int) = 0 * t
    rw [Int.zero_mul]
  | r :: u => by
    show lenR ((r.1, r.2 * t) :: scR t u) = _
    rw [lenR_cons, lenR_cons, len_sc u, Int.add_mul]
/-- the multiplied state at a multiplied moment -/
theorem whole_sc {t : Int} {rs : List Run} {st : Option Run} {p : Nat} (ht : 0 < t) (h : PosO st) (k : ∀ r ∈ rs, 1 ≤ r.2) :
    stR (cutR 0 ((p : Int) * t) 0 (scR t rs)) (scO t st) = scO t (toldR (plA (w0R st) 0 ((itR rs).take p))) := by
  have e := cut_sc (s := 0) (e := (p : Int)) ht rs 0
  rw [Int.zero_mul] at e
  rw [e, st_sc ht, told_plA _ _ _ (uni_w0 st), told_w0 h, st_items _ _ h cutR_pos, cut_items _ _ _ (Int.le_refl _) k, Int.sub_zero, Int.toNat_natCast]
end UP

set_option Elab.async false
set_option linter.all false
set_option maxRecDepth 100000
set_option maxHeartbeats 4000000
namespace UP
open PySem PySem.Spec PyProof.Rows L2
theorem room70 {A : Around} {k : Nat} (hr : Room k A) : A.units + 70 < cLine := by
  have := hr.un
  omega
theorem call_list_ofK {X : Cx} {K : PySem.W.Frag} (h : X.K = K) : CallR X (.type "list") (fun xs H Q => ∃ p ys, xs = [.ref p] ∧ (SqL K H p ys ∨ SqT K H p ys) ∧ ∀ l, H l = none → Q (.ref l) (upd H l (.lst ys))) := by
  subst h
  exact call_list_of
/-! ### data that a repr takes -/
structure Nice (w n : Nat) (d : PyData) : Prop where
  can : d.canLay0 = true
  dep : d.depth ≤ n
  sho : d.showable = true
  lea : d.leavesShort 100 = true
  wei : d.weight ≤ w
theorem Nice.mono {w w' n n' : Nat} {d : PyData} (h : Nice w n d) (h1 : w ≤ w') (h2 : n ≤ n') : Nice w' n' d := ⟨h.can, Nat.le_trans h.dep h2, h.sho, h.lea, Nat.le_trans h.wei h1⟩
theorem Nice.fits {w n : Nat} {d : PyData} (h : Nice w n d) (hw : w ≤ 150000) (hn : n ≤ 64) : d.showable = true ∧ SeqAt.shaped d = true ∧ d.shown.length ≤ sizeLine := by
  refine ⟨h.sho, ?_, ?_⟩
  · unfold SeqAt.shaped
    rw [h.can]
    have := h.dep
    exact decide_eq_true (by omega)
  · have h1 := PyData.shown_le 100 (by decide) d h.lea
    have h2 := h.wei
    have h3 : d.shown.length ≤ 16000000 := by omega
    exact Nat.le_trans h3 (by decide)
theorem nice_none : Nice 0 0 .none := ⟨rfl, Nat.le_refl _, rfl, rfl, Nat.le_refl _⟩
theorem nice_str {s : Str} (h : KindOk s) : Nice 8 0 (.str s) := by
  refine ⟨?_, Nat.le_refl _, rfl, ?_, h.2.1⟩
  · rw [PyData.canLay0]
    exact h.str
  · rw [PyData.leavesShort, List.all_eq_true]
    intro c hc
    have := h.2.2 c hc
    exact decide_eq_true (by omega)
theorem nice_int {i : Int} (h : i.natAbs < 10 ^ 60) : Nice 201 0 (.int i) := by
  have h2 : i.natAbs < 2 ^ 200 := Nat.lt_of_lt_of_le h (by decide)
  have h3 : i.natAbs.log2 < 200 := by
    by_cases z : i.natAbs = 0
    · rw [z]
      decide
    · exact (Nat.log2_lt z).mpr h2
  refine ⟨by rw [PyData.canLay0], Nat.le_refl _, ?_, ?_, ?_⟩
  · rw [PyData.showable]
    exact decide_eq_true (by omega)
  · rw [PyData.leavesShort]
    refine decide_eq_true ?_
    have e := int_text_length_le10 (k := 60) (by decide) h
    show (Str.ofString (toString i)).length ≤ 100
    rw [PySem.ofString_length]
    omega
  · rw [PyData.weight]
    split <;> omega
theorem nice_items {w n : Nat} : ∀ {ds : List PyData}, (∀ d ∈ ds, Nice w n d) → PyData.canLayAll0 ds = true ∧ PyData.depthAll ds ≤ n ∧ PyData.showableAll ds = true ∧ PyData.leavesShortAll 100 ds = true ∧ PyData.weightAll ds ≤ (w + 1) * ds.length
  | [], _ => ⟨rfl, Nat.zero_le _, rfl, rfl, Nat.zero_le _⟩
  | d :: t, h => by
    have h1 := h d (List.mem_cons_self ..)
    obtain ⟨a, b, c, e, f⟩ := nice_items (ds := t) fun x hx => h x (List.mem_cons_of_mem _ hx)
    refine ⟨?_, ?_, ?_, ?_, ?_⟩
    · rw [PyData.canLayAll0, h1.can, a]
      rfl
    · rw [PyData.depthAll]
      exact Nat.max_le.mpr ⟨h1.dep, b⟩
    · rw [PyData.showableAll, h1.sho, c]
      rfl
    · rw [PyData.leavesShortAll, h1.lea, e]
      rfl
    · have h2 := h1.wei
      rw [PyData.weightAll, List.length_cons, Nat.mul_succ]
      omega
theorem nice_list {w n : Nat} {ds : List PyData} (h : ∀ d ∈ ds, Nice w n d) : Nice ((w + 1) * ds.length) (n + 1) (.list ds) := by
  obtain ⟨a, b, c, e, f⟩ := nice_items h
  exact ⟨by rw [PyData.canLay0]; exact a, by rw [PyData.depth]; omega, by rw [PyData.showable]; exact c, by rw [PyData.leavesShort]; exact e, by rw [PyData.weight]; exact f⟩
theorem nice_tup {w n : Nat} {ds : List PyData} (h : ∀ d ∈ ds, Nice w n d) : Nice ((w + 1) * ds.length) (n + 1) (.tuple ds) := by
  obtain ⟨a, b, c, e, f⟩ := nice_items h
  exact ⟨by rw [PyData.canLay0]; exact a, by rw [PyData.depth]; omega, by rw [PyData.showable]; exact c, by rw [PyData.leavesShort]; exact e, by rw [PyData.weight]; exact f⟩
/-- v stands for d at H and at every heap that keeps H -/
def DpS (K : PySem.W.Frag) (H : Hp) (v : V) (d : PyData) : Prop := ∀ H', Same H H' → Dp K H' v d
theorem DpS.same {K : PySem.W.Frag} {H H' : Hp} {v : V} {d : PyData} (s : Same H H') (h : DpS K H v d) : DpS K H' v d := fun H2 s2 => h H2 (s.trans s2)
theorem dps_all {K : PySem.W.Frag} {H : Hp} {F : PyData → Prop} : ∀ {xs : List V}, (∀ x ∈ xs, ∃ d, DpS K H x d ∧ F d) → ∃ ds, (∀ H', Same H H' → DpAll K H' xs ds) ∧ ds.length = xs.length ∧ ∀ d ∈ ds, F d
  | [], _ => ⟨[], fun _ _ => .nil, rfl, fun d h => by cases h⟩
  | x :: t, h => by
    obtain ⟨d, h1, h2⟩ := h x (List.mem_cons_self ..)
    obtain ⟨ds, a, b, c⟩ := dps_all (xs := t) fun y hy => h y (List.mem_cons_of_mem _ hy)
    refine ⟨d :: ds, fun H' s => .cons (h1 H' s) (a H' s), congrArg Nat.succ b, fun z hz => ?_⟩
    rcases List.mem_cons.mp hz with e | e
    · rw [e]
      exact h2
    · exact c z e
theorem dps_seq {K : PySem.W.Frag} {H : Hp} {a : Addr} {xs : List V} {w n : Nat} (hx : Sq2 H a xs) (h : ∀ x ∈ xs, ∃ d, DpS K H x d ∧ Nice w n d) : ∃ d, DpS K H (.ref a) d ∧ Nice ((w + 1) * xs.length) (n + 1) d := by
  obtain ⟨ds, h1, h2, h3⟩ := dps_all h
  rcases hx with z | z
  · exact ⟨.list ds, fun H' s => .lst (.of (s _ _ z)) (h1 H' s), by rw [← h2]; exact nice_list h3⟩
  · exact ⟨.tuple ds, fun H' s => .tup (.of (s _ _ z)) (h1 H' s), by rw [← h2]; exact nice_tup h3⟩
theorem dps_run {K : PySem.W.Frag} {H : Hp} {v : V} {r : Run} (h : RunG H v r) (k : KindOk r.1) (c : r.2.natAbs < 10 ^ 60) : ∃ d, DpS K H v d ∧ Nice 404 1 d := by
  obtain ⟨t, rfl, h⟩ := h
  have := dps_seq (K := K) (w := 201) (n := 0) h fun x hx => by
    rcases List.mem_cons.mp hx with e | e
    · rw [e]
      exact ⟨.str r.1, fun _ _ => .str _, (nice_str k).mono (by decide) (Nat.le_refl _)⟩
    · rw [List.mem_singleton.mp e]
      exact ⟨.int r.2, fun _ _ => .int _, nice_int c⟩
  exact this
theorem dps_runs {K : PySem.W.Frag} {H : Hp} {v : V} {rs : List Run} (h : RunsG H v rs) (k : ∀ r ∈ rs, KindOk r.1 ∧ r.2.natAbs < 10 ^ 60) (l : rs.length ≤ 100) : ∃ d, DpS K H v d ∧ Nice 41000 2 d := by
  obtain ⟨a, xs, rfl, hx, hp⟩ := h
  have lx : xs.length = rs.length := Paired.len hp
  obtain ⟨d, h1, h2⟩ := dps_seq (K := K) (w := 404) (n := 1) hx fun x hx => by
    obtain ⟨i, hi, e⟩ := List.mem_iff_getElem.mp hx
    obtain ⟨r, er, hr⟩ := Paired.at hp (List.getElem?_eq_getElem hi)
    rw [e] at hr
    have := k r (List.mem_of_getElem? er)
    exact dps_run hr this.1 this.2
  exact ⟨d, h1, h2.mono (by rw [lx]; omega) (Nat.le_refl _)⟩
theorem dps_st {K : PySem.W.Frag} {H : Hp} {v : V} {st : Option Run} (h : StG H v st) (k : ∀ r, st = some r → KindOk r.1 ∧ r.2.natAbs < 10 ^ 60) : ∃ d, DpS K H v d ∧ Nice 41000 2 d := by
  cases st with
  | none =>
    cases h
    exact ⟨.none, fun _ _ => .non, nice_none.mono (by decide) (by decide)⟩
  | some r =>
    obtain ⟨d, h1, h2⟩ := dps_run (K := K) h (k r rfl).1 (k r rfl).2
    exact ⟨d, h1, h2.mono (by decide) (by decide)⟩
theorem dps_two {K : PySem.W.Frag} {H : Hp} {a : Addr} {x y : V} (h : H a = some (.lst [x, y])) (hx : ∃ d, DpS K H x d ∧ Nice 41000 2 d) (hy : ∃ d, DpS K H y d ∧ Nice 41000 2 d) : ∃ d, DpS K H (.ref a) d ∧ Nice 82002 3 d := by
  have := dps_seq (K := K) (a := a) (xs := [x, y]) (w := 41000) (n := 2) (.inl h) fun z hz => by
    rcases List.mem_cons.mp hz with e | e
    · rw [e]
      exact hx
    · rw [List.mem_singleton.mp e]
      exact hy
  exact this
/-! ### dressed and undressed -/
def dP (r : Run) : PyData := .list [.str r.1, .int r.2]
def dSq (rs : List Run) : PyData := .list (rs.map dP)
def dSt : Option Run → PyData
  | none => .none
  | some r => dP r
theorem sim_pair {N : Addr → Prop} {H : Hp} {n : Nat} (r : Run) : Paired (Sim N H n) [V.str r.1, V.int r.2] [PyData.str r.1, PyData.int r.2] := .cons (Sim.dsc (.inr (.inr (.inr ⟨_, rfl, rfl⟩)))) (.cons (Sim.dsc (.inr (.inr (.inl ⟨_, rfl, rfl⟩)))) .nil)
theorem sim_run {H : Hp} {sp : Addr} {v : V} {r : Run} {n : Nat} (z : Spr H sp) (h : RunV H v r) : Sim (· ≠ sp) H (n + 1) v (dP r) := by
  obtain ⟨t, rfl, h⟩ := h
  obtain ⟨_, _, _, hs, _⟩ := z
  exact .inr ⟨t, _, _, rfl, ne_of h hs (by intro q; cases q), .inr h, rfl, sim_pair r, Nat.le_of_ble_eq_true rfl⟩
theorem sim_seq {H : Hp} {sp a : Addr} {rs : List Run} (z : Spr H sp) (h : Runs H a rs) (l : rs.length ≤ 1000) : Sim (· ≠ sp) H 2 (.ref a) (dSq rs) := by
  have na := Runs.ne z h
  obtain ⟨xs, hx, hp⟩ := h
  refine .inr ⟨a, xs, _, rfl, na, .inl hx, rfl, ?_, by rw [List.length_map]; exact l⟩
  have gen : ∀ {xs : List V} {rs : List Run}, Paired (RunV H) xs rs → Paired (Sim (· ≠ sp) H 1) xs (rs.map dP) := by
    intro xs rs h
    induction h with
    | nil => exact .nil
    | cons h _ ih => exact .cons (sim_run z h) ih
  exact gen hp
theorem sim_st {H : Hp} {sp : Addr} {v : V} {st : Option Run} (z : Spr H sp) (h : StV H v st) : Sim (· ≠ sp) H 2 v (dSt st) := by
  cases st with
  | none =>
    cases h
    exact .inl (.inl ⟨rfl, rfl⟩)
  | some r => exact sim_run z h
theorem sim_one {N : Addr → Prop} {H : Hp} {n : Nat} {v : V} {r : Run} (h : Sim N H (n + 1) v (dP r)) : RunG H v r := by
  rcases h with h | ⟨a, xs, ds, rfl, _, hx, e, p, _⟩
  · exact (dsc_lst h).elim
  · cases e
    have scal : ∀ {m : Nat} {x : V} {s : Str}, Sim N H m x (.str s) → x = .str s := by
      intro m x s h
      have h : Dsc x (.str s) := by
        cases m with
        | zero => exact h
        | succ m =>
          rcases h with h | ⟨_, _, _, _, _, _, e, _⟩
          · exact h
          · cases e
      rcases h with ⟨_, e⟩ | ⟨_, _, e⟩ | ⟨_, _, e⟩ | ⟨y, e1, e⟩ <;> cases e
      exact e1
    have scai : ∀ {m : Nat} {x : V} {s : Int}, Sim N H m x (.int s) → x = .int s := by
      intro m x s h
      have h : Dsc x (.int s) := by
        cases m with
        | zero => exact h
        | succ m =>
          rcases h with h | ⟨_, _, _, _, _, _, e, _⟩
          · exact h
          · cases e
      rcases h with ⟨_, e⟩ | ⟨_, _, e⟩ | ⟨y, e1, e⟩ | ⟨_, _, e⟩ <;> cases e
      exact e1
    cases p with
    | cons h1 p1 =>
      cases p1 with
      | cons h2 p2 =>
        cases p2
        rw [scal h1, scai h2] at hx
        exact ⟨a, rfl, hx⟩
theorem sim_all {N : Addr → Prop} {H : Hp} : ∀ (rs : List Run) (xs : List V), Paired (Sim N H 1) xs (rs.map dP) → Paired (RunG H) xs rs
  | [], xs, h => by
    cases h
    exact .nil
  | r :: t, xs, h => by
    cases h with
    | cons h1 h2 => exact .cons (sim_one h1) (sim_all t _ h2)
theorem sim_runs {N : Addr → Prop} {H : Hp} {v : V} {rs : List Run} (h : Sim N H 2 v (dSq rs)) : RunsG H v rs := by
  rcases h with h | ⟨a, xs, ds, rfl, _, hx, e, p, _⟩
  · exact (dsc_lst h).elim
  · cases e
    refine ⟨a, xs, rfl, hx, ?_⟩
    exact sim_all rs xs p
theorem sim_stg {N : Addr → Prop} {H : Hp} {v : V} {st : Option Run} (h : Sim N H 2 v (dSt st)) : StG H v st := by
  cases st with
  | none =>
    rcases h with h | ⟨_, _, _, _, _, _, e, _⟩
    · rcases h with ⟨e, _⟩ | ⟨_, _, e⟩ | ⟨_, _, e⟩ | ⟨_, _, e⟩
      · exact e
      all_goals cases e
    · cases e
  | some r => exact sim_one h
/-! ### one by one -/
theorem at_moment {rs : List Run} {st : Option Run} {m : Nat} (h : PosO st) (k : ∀ r ∈ rs, 1 ≤ r.2) : stR (cutR 0 (m : Int) 0 rs) st = toldR (plA (w0R st) 0 ((itR rs).take m)) := by
  rw [told_plA _ _ _ (uni_w0 st), told_w0 h, st_items _ _ h cutR_pos, cut_items _ _ _ (Int.le_refl _) k, Int.sub_zero, Int.toNat_natCast]
theorem at_end {rs : List Run} {st : Option Run} (h : PosO st) (k : ∀ r ∈ rs, 1 ≤ r.2) : stR rs st = toldR (plA (w0R st) 0 (itR rs)) := by
  rw [told_plA _ _ _ (uni_w0 st), told_w0 h, st_items _ _ h k]
theorem plMs_get (ws : List Run) (ks : List Str) {n : Nat} (h : n ≤ ks.length) : (plMs ws ks)[n]? = some (plA ws 0 (ks.take n)) := by
  unfold plMs
  rw [List.getElem?_map, List.getElem?_range (by omega)]
  rfl
def dO : Option Run → PyData
  | none => .none
  | some r => dRun r
theorem dt_st {H : Hp} {v : V} {st : Option Run} {n : Nat} (h : StV H v st) : Dt H (n + 1) v (dO st) := by
  cases st with
  | none =>
    cases h
    exact .inl (.inl ⟨rfl, rfl⟩)
  | some r =>
    obtain ⟨t, rfl, h⟩ := h
    refine .inr (.inr ⟨t, _, _, rfl, h, rfl, .cons ?_ (.cons ?_ .nil), Nat.le_of_ble_eq_true rfl⟩)
    · cases n with
      | zero => exact .inr (.inr (.inr ⟨_, rfl, rfl⟩))
      | succ m => exact .inl (.inr (.inr (.inr ⟨_, rfl, rfl⟩)))
    · cases n with
      | zero => exact .inr (.inr (.inl ⟨_, rfl, rfl⟩))
      | succ m => exact .inl (.inr (.inr (.inl ⟨_, rfl, rfl⟩)))
theorem w0_len {st : Option Run} (h : ∀ r, st = some r → r.2 ≤ 1000) : (w0R st).length ≤ 1000 := by
  cases st with
  | none => exact Nat.zero_le _
  | some r =>
    have := h r rfl
    show (List.replicate r.2.toNat (r.1, (-1 : Int))).length ≤ 1000
    rw [List.length_replicate]
    omega
theorem w0_kinds {st : Option Run} (h : StOk st) : ∀ r ∈ w0R st, KindOk r.1 := by
  cases st with
  | none => intro r h; cases h
  | some x =>
    intro r hr
    rw [List.eq_of_mem_replicate hr]
    exact (h x rfl).1
theorem it_kinds {rs : List Run} (h : ∀ r ∈ rs, KindOk r.1) : ∀ k ∈ itR rs, KindOk k := by
  intro k hk
  obtain ⟨r, h1, h2⟩ := List.mem_flatMap.mp hk
  rw [List.eq_of_mem_replicate h2]
  exact h r h1
end UP

set_option Elab.async false
set_option linter.all false
set_option maxRecDepth 100000
set_option maxHeartbeats 4000000
namespace UP
open PySem PySem.Spec PyProof.Rows L2
theorem paired_snoc {α β : Type} {F : α → β → Prop} : ∀ {xs : List α} (l : List β) (y : β), Paired F xs (l ++ [y]) → ∃ xs0 x, xs = xs0 ++ [x] ∧ Paired F xs0 l ∧ F x y
  | _, [], y, h => by
    cases h with
    | cons h1 h2 =>
      cases h2
      exact ⟨[], _, rfl, .nil, h1⟩
  | _, z :: l, y, h => by
    cases h with
    | cons h1 h2 =>
      obtain ⟨xs0, x, e, h3, h4⟩ := paired_snoc l y h2
      exact ⟨_ :: xs0, x, by rw [e]; rfl, .cons h1 h3, h4⟩
theorem set_last {α : Type} : ∀ (l : List α) (x y : α), (l ++ [x]).set l.length y = l ++ [y]
  | [], _, _ => rfl
  | z :: l, x, y => congrArg (z :: ·) (set_last l x y)
theorem ixN_last {n : Nat} : ixN (n + 1) (-1) = some n := by
  unfold ixN
  simp
  omega
/-! ### one more run -/
def addR (rs : List Run) (r : Run) : List Run := match rs.getLast? with
  | none => [r]
  | some l => if l.1 = r.1 then rs.dropLast ++ [(r.1, l.2 + r.2)] else rs ++ [r]
def joinR (rs cs : List Run) : List Run := cs.foldl addR rs
theorem joinR_snoc (rs cs : List Run) (r : Run) : joinR rs (cs ++ [r]) = addR (joinR rs cs) r := by
  unfold joinR
  rw [List.foldl_append]
  rfl
theorem addR_len (rs : List Run) (r : Run) : (addR rs r).length ≤ rs.length + 1 := by
  unfold addR
  split
  · exact Nat.le_add_left _ _
  · split
    · rw [List.length_append, List.length_dropLast]
      simp only [List.length_cons, List.length_nil]
      omega
    · rw [List.length_append]
      exact Nat.le_refl _
theorem joinR_len : ∀ (cs rs : List Run), (joinR rs cs).length ≤ rs.length + cs.length
  | [], _ => Nat.le_refl _
  | c :: t, rs => by
    have h1 := joinR_len t (addR rs c)
    have h2 := addR_len rs c
    show (joinR (addR rs c) t).length ≤ _
    rw [List.length_cons]
    omega
theorem RunV.butL {H H' : Hp} {p : Addr} {xs : List V} {v : V} {r : Run} (hp : H p = some (.lst xs)) (b : But p H H') (h : RunV H v r) : RunV H' v r := by
  obtain ⟨t, e, h⟩ := h
  exact ⟨t, e, b _ _ (ne_of h hp (by intro q; cases q)) h⟩
section
variable {P : Program} {w : World} {K : PySem.W.Frag} {mg : Str → Option Value} {base : Heap}
end
end UP

set_option Elab.async false
set_option linter.all false
set_option maxRecDepth 100000
set_option maxHeartbeats 4000000
namespace UP
open PySem PySem.Spec PyProof.Rows L2
def runR (ks : List Str) : List Run := ks.foldl (fun rs k => addR rs (k, 1)) []
theorem runR_snoc (ks : List Str) (k : Str) : runR (ks ++ [k]) = addR (runR ks) (k, 1) := by
  unfold runR
  rw [List.foldl_append]
  rfl
theorem runR_len (ks : List Str) : (runR ks).length ≤ ks.length := by
  have gen : ∀ (ks : List Str) (rs : List Run), (ks.foldl (fun rs k => addR rs (k, 1)) rs).length ≤ rs.length + ks.length := by
    intro ks
    induction ks with
    | nil => intro rs; exact Nat.le_refl _
    | cons k t ih =>
      intro rs
      have h1 := ih (addR rs (k, 1))
      have h2 := addR_len rs (k, 1)
      show (t.foldl (fun rs k => addR rs (k, 1)) (addR rs (k, 1))).length ≤ _
      rw [List.length_cons]
      omega
  have := gen ks []
  rw [List.length_nil, Nat.zero_add] at this
  exact this
section
variable {P : Program} {w : World} {K : PySem.W.Frag} {mg : Str → Option Value} {base : Heap}
end
end UP

set_option Elab.async false
set_option linter.all false
set_option maxRecDepth 100000
set_option maxHeartbeats 4000000
namespace UP
open PySem PySem.Spec PyProof.Rows L2
theorem Alt.tail {r : Run} {t : List Run} (h : Alt (r :: t)) : Alt t := fun i x y hx hy => h (i + 1) x y hx hy
theorem addR_new {rs : List Run} {r : Run} (h : ∀ l, rs.getLast? = some l → l.1 ≠ r.1) : addR rs r = rs ++ [r] := by
  unfold addR
  cases e : rs.getLast? with
  | none =>
    rw [List.getLast?_eq_none_iff.mp e]
    rfl
  | some l => exact if_neg (h l e)
theorem addR_more (R : List Run) (l r : Run) (h : l.1 = r.1) : addR (R ++ [l]) r = R ++ [(r.1, l.2 + r.2)] := by
  unfold addR
  rw [List.getLast?_concat, List.dropLast_concat]
  exact if_pos h
theorem join_alt : ∀ (cs rs : List Run), Alt cs → (∀ l c, rs.getLast? = some l → cs.head? = some c → l.1 ≠ c.1) → joinR rs cs = rs ++ cs
  | [], rs, _, _ => by
    rw [List.append_nil]
    rfl
  | c :: t, rs, a, h => by
    show joinR (addR rs c) t = rs ++ c :: t
    rw [addR_new fun l hl => h l c hl rfl, join_alt t (rs ++ [c]) a.tail (fun l d hl hd => ?_), List.append_assoc]
    · rfl
    · rw [List.getLast?_concat] at hl
      cases hl
      cases t with
      | nil => cases hd
      | cons e u =>
        cases hd
        exact a 0 _ _ rfl rfl
theorem join_more (R : List Run) (l c : Run) (t : List Run) (a : Alt (c :: t)) (h : l.1 = c.1) : joinR (R ++ [l]) (c :: t) = R ++ [(c.1, l.2 + c.2)] ++ t := by
  show joinR (addR (R ++ [l]) c) t = _
  rw [addR_more R l c h, join_alt t _ a.tail (fun l' d hl hd => ?_)]
  rw [List.getLast?_concat] at hl
  cases hl
  cases t with
  | nil => cases hd
  | cons e u =>
    cases hd
    exact a 0 c _ rfl rfl
/-! ### items and runs -/
theorem run_more : ∀ (n : Nat) (R : List Run) (k : Str) (c : Int), (List.replicate n k).foldl (fun rs k => addR rs (k, 1)) (R ++ [(k, c)]) = R ++ [(k, c + (n : Int))]
  | 0, R, k, c => by
    rw [show c + ((0 : Nat) : Int) = c by omega]
    rfl
  | n + 1, R, k, c => by
    show (List.replicate n k).foldl (fun rs k => addR rs (k, 1)) (addR (R ++ [(k, c)]) (k, 1)) = _
    rw [addR_more R (k, c) (k, 1) rfl, run_more n R k (c + 1), show c + 1 + (n : Int) = c + ((n + 1 : Nat) : Int) by omega]
theorem run_one (n : Nat) (rs : List Run) (k : Str) (h : ∀ l, rs.getLast? = some l → l.1 ≠ k) : (List.replicate (n + 1) k).foldl (fun rs k => addR rs (k, 1)) rs = rs ++ [(k, (n : Int) + 1)] := by
  show (List.replicate n k).foldl (fun rs k => addR rs (k, 1)) (addR rs (k, 1)) = _
  rw [addR_new (r := (k, 1)) h, run_more n rs k 1, show (1 : Int) + (n : Int) = (n : Int) + 1 by omega]
theorem run_items : ∀ (rs R : List Run), Alt rs → (∀ r ∈ rs, 1 ≤ r.2) → (∀ l c, R.getLast? = some l → rs.head? = some c → l.1 ≠ c.1) → (itR rs).foldl (fun rs k => addR rs (k, 1)) R = R ++ rs
  | [], R, _, _, _ => by
    rw [List.append_nil]
    rfl
  | r :: t, R, a, p, h => by
    have c1 := p r (List.mem_cons_self ..)
    obtain ⟨n, hn⟩ : ∃ n : Nat, r.2.toNat = n + 1 := ⟨r.2.toNat - 1, by omega⟩
    have e : itR (r :: t) = List.replicate r.2.toNat r.1 ++ itR t := rfl
    rw [e, List.foldl_append, hn, run_one n R r.1 (fun l hl => h l r hl rfl), show (n : Int) + 1 = r.2 by omega, run_items t (R ++ [(r.1, r.2)]) a.tail (fun x hx => p x (List.mem_cons_of_mem _ hx)) (fun l d hl hd => ?_), List.append_assoc]
    · rfl
    · rw [List.getLast?_concat] at hl
      cases hl
      cases t with
      | nil => cases hd
      | cons e u =>
        cases hd
        exact a 0 _ _ rfl rfl
theorem run_it {rs : List Run} (a : Alt rs) (p : ∀ r ∈ rs, 1 ≤ r.2) : runR (itR rs) = rs := by
  have := run_items rs [] a p (fun l c hl => by cases hl)
  rw [List.nil_append] at this
  exact this
theorem it_one (k : Str) (c : Int) : itR [(k, c)] = List.replicate c.toNat k := by
  show List.replicate c.toNat k ++ [] = _
  rw [List.append_nil]
theorem it_add (rs : List Run) (k : Str) (p : ∀ r ∈ rs, 1 ≤ r.2) : itR (addR rs (k, 1)) = itR rs ++ [k] := by
  rcases List.eq_nil_or_concat rs with e0 | ⟨R0, l, e0⟩
  · subst e0
    rfl
  · rw [List.concat_eq_append] at e0
    subst e0
    have c1 := p l (List.mem_append.mpr (.inr (List.mem_singleton.mpr rfl)))
    by_cases h : l.1 = k
    · rw [addR_more R0 l (k, 1) h, it_app, it_app, List.append_assoc, it_one]
      congr 1
      have e : itR [l] = List.replicate l.2.toNat l.1 := it_one l.1 l.2
      show List.replicate (l.2 + 1).toNat k = itR [l] ++ [k]
      rw [e, h, show (l.2 + 1).toNat = l.2.toNat + 1 by omega, List.replicate_succ']
    · rw [addR_new (fun l' hl => by rw [List.getLast?_concat] at hl; cases hl; exact h), it_app]
      rfl
/-- what holds of the runs of some kinds -/
structure RunsOf (rs : List Run) (ks : List Str) : Prop where
  it : itR rs = ks
  pos : ∀ r ∈ rs, 1 ≤ r.2
  mem : ∀ r ∈ rs, r.1 ∈ ks
  alt : Alt rs
theorem runs_snoc {rs : List Run} {ks : List Str} {k : Str} (h : RunsOf rs ks) : RunsOf (addR rs (k, 1)) (ks ++ [k]) := by
  obtain ⟨i, p, m, a⟩ := h
  refine ⟨by rw [it_add rs k p, i], ?_, ?_, ?_⟩
  all_goals
    rcases List.eq_nil_or_concat rs with e0 | ⟨R0, l, e0⟩
  · subst e0
    intro r hr
    rw [List.mem_singleton.mp (show r ∈ [(k, (1 : Int))] from hr)]
    exact Int.le_refl 1
  · rw [List.concat_eq_append] at e0
    subst e0
    have c1 := p l (List.mem_append.mpr (.inr (List.mem_singleton.mpr rfl)))
    intro r hr
    by_cases h : l.1 = k
    · rw [addR_more R0 l (k, 1) h] at hr
      rcases List.mem_append.mp hr with z | z
      · exact p r (List.mem_append.mpr (.inl z))
      · rw [List.mem_singleton.mp z]
        show 1 ≤ l.2 + 1
        omega
    · rw [addR_new (fun l' hl => by rw [List.getLast?_concat] at hl; cases hl; exact h)] at hr
      rcases List.mem_append.mp hr with z | z
      · exact p r z
      · rw [List.mem_singleton.mp z]
        exact Int.le_refl 1
  · subst e0
    intro r hr
    rw [List.mem_singleton.mp (show r ∈ [(k, (1 : Int))] from hr)]
    exact List.mem_append.mpr (.inr (List.mem_singleton.mpr rfl))
  · rw [List.concat_eq_append] at e0
    subst e0
    intro r hr
    by_cases h : l.1 = k
    · rw [addR_more R0 l (k, 1) h] at hr
      rcases List.mem_append.mp hr with z | z
      · exact List.mem_append.mpr (.inl (m r (List.mem_append.mpr (.inl z))))
      · rw [List.mem_singleton.mp z]
        exact List.mem_append.mpr (.inr (List.mem_singleton.mpr rfl))
    · rw [addR_new (fun l' hl => by rw [List.getLast?_concat] at hl; cases hl; exact h)] at hr
      rcases List.mem_append.mp hr with z | z
      · exact List.mem_append.mpr (.inl (m r z))
      · rw [List.mem_singleton.mp z]
        exact List.mem_append.mpr (.inr (List.mem_singleton.mpr rfl))
  · subst e0
    intro i x y hx hy
    cases hy
  · rw [List.concat_eq_append] at e0
    subst e0
    by_cases h : l.1 = k
    · rw [addR_more R0 l (k, 1) h]
      have e : (R0 ++ [((k, (1 : Int)).1, l.2 + (k, (1 : Int)).2)]).map (·.1) = (R0 ++ [l]).map (·.1) := by
        rw [List.map_append, List.map_append]
        show R0.map (·.1) ++ [k] = R0.map (·.1) ++ [l.1]
        rw [h]
      intro i x y hx hy
      have ex := congrArg (fun z : List Str => z[i]?) e
      have ey := congrArg (fun z : List Str => z[i + 1]?) e
      simp only [List.getElem?_map] at ex ey
      rw [hx] at ex
      rw [hy] at ey
      cases gx : (R0 ++ [l])[i]? with
      | none => rw [gx] at ex; cases ex
      | some x' =>
        cases gy : (R0 ++ [l])[i + 1]? with
        | none => rw [gy] at ey; cases ey
        | some y' =>
          rw [gx] at ex
          rw [gy] at ey
          have ex : x.1 = x'.1 := Option.some.inj ex
          have ey : y.1 = y'.1 := Option.some.inj ey
          rw [ex, ey]
          exact a i x' y' gx gy
    · rw [addR_new (fun l' hl => by rw [List.getLast?_concat] at hl; cases hl; exact h)]
      refine alt_snoc a fun y hy => ?_
      rw [← List.getLast?_eq_getElem?, List.getLast?_concat] at hy
      cases hy
      exact h
theorem runs_of_all : ∀ (ks l : List Str) (R : List Run), RunsOf R l → RunsOf (ks.foldl (fun rs k => addR rs (k, 1)) R) (l ++ ks)
  | [], l, R, h => by
    rw [List.append_nil]
    exact h
  | k :: t, l, R, h => by
    have := runs_of_all t (l ++ [k]) _ (runs_snoc (k := k) h)
    rw [List.append_assoc] at this
    exact this
theorem runs_all (ks : List Str) : RunsOf (runR ks) ks := runs_of_all ks [] [] ⟨rfl, (fun r h => by cases h), (fun r h => by cases h), fun i x y hx => by simp at hx⟩
theorem len_mem {rs : List Run} (p : ∀ r ∈ rs, 1 ≤ r.2) : ∀ r ∈ rs, r.2 ≤ lenR rs := by
  induction rs with
  | nil => intro r h; cases h
  | cons x t ih =>
    intro r hr
    have c1 := p x (List.mem_cons_self ..)
    have ih' := ih fun y hy => p y (List.mem_cons_of_mem _ hy)
    rw [lenR_cons]
    have nn : 0 ≤ lenR t := by
      have := len_it t fun y hy => p y (List.mem_cons_of_mem _ hy)
      omega
    rcases List.mem_cons.mp hr with e | e
    · rw [e]
      omega
    · have := ih' r e
      omega
theorem seq_runs {ks : List Str} (l : ks.length ≤ 400) (ok : ∀ k ∈ ks, KindOk k) : SeqOk (runR ks) ∧ lenR (runR ks) ≤ 400 ∧ itR (runR ks) = ks := by
  obtain ⟨i, p, m, a⟩ := runs_all ks
  have ll := len_it (runR ks) p
  rw [i] at ll
  refine ⟨⟨?_, fun r hr => ⟨ok _ (m r hr), p r hr, ?_⟩, a⟩, by omega, i⟩
  · exact Nat.le_trans (runR_len ks) l
  · have := len_mem p r hr
    omega
end UP

set_option Elab.async false
set_option linter.all false
set_option maxRecDepth 100000
set_option maxHeartbeats 4000000
/-! ### sorted(d.items()), d a dict of texts with ints -/
namespace UPS
open PySem PyProof.Rows SrtO Srt
def lexS (p q : Str × Int) : Bool := if p.1 = q.1 then decide (p.2 < q.2) else decide (p.1.cps.toList < q.1.cps.toList)
theorem lexS_no {p q : Str × Int} : lexS p q = false ↔ (p.1 = q.1 → ¬ p.2 < q.2) ∧ (p.1 ≠ q.1 → ¬ p.1.cps.toList < q.1.cps.toList) := by
  unfold lexS
  by_cases e : p.1 = q.1
  · rw [if_pos e, decide_eq_false_iff_not]
    exact ⟨fun h => ⟨fun _ => h, fun n => absurd e n⟩, fun h => h.1 e⟩
  · rw [if_neg e, decide_eq_false_iff_not]
    exact ⟨fun h => ⟨fun z => absurd z e, fun _ => h⟩, fun h => h.2 e⟩
theorem str_of {x y : Str} (h : x.cps.toList = y.cps.toList) : x = y := by
  cases x with
  | mk a =>
    cases y with
    | mk b =>
      congr 1
      exact Array.ext' h
theorem swoS : Swo lexS := by
  refine ⟨fun x y h => ?_, fun x y z h1 h2 => ?_⟩
  · refine lexS_no.mpr ⟨fun e => ?_, fun n => ?_⟩
    · unfold lexS at h
      rw [if_pos e.symm] at h
      have := of_decide_eq_true h
      omega
    · unfold lexS at h
      rw [if_neg fun z => n z.symm] at h
      exact List.lt_asymm (of_decide_eq_true h)
  · have a := lexS_no.mp h1
    have b := lexS_no.mp h2
    refine lexS_no.mpr ⟨fun e => ?_, fun n => ?_⟩
    · by_cases c : y.1 = x.1
      · have := a.1 c
        have := b.1 (e.trans c.symm)
        omega
      · exfalso
        have p := a.2 c
        have q := b.2 fun w => c (w.symm.trans e)
        rw [e] at q
        exact c (str_of (List.le_antisymm q p))
    · by_cases c : y.1 = x.1
      · rw [← c]
        exact b.2 fun w => n (w.trans c)
      · by_cases d : z.1 = y.1
        · rw [d]
          exact a.2 c
        · exact List.le_trans (a.2 c) (b.2 d)
/-- a tuple of a text and an int -/
def IsSI (h : Heap) (v : Value) (x : Str) (y : Int) : Prop := ∃ a o t u n, v = .ref a ∧ h.get? a = some o ∧ o.cls = .type "tuple" ∧ o.data = .seq #[.str x t, .int y u] n
theorem IsSI.keeps {h h' : Heap} {v : Value} {x : Str} {y : Int} (p : IsSI h v x y) (k : ∀ b o, h.get? b = some o → o.cls = .type "tuple" → h'.get? b = some o) : IsSI h' v x y := by
  obtain ⟨a, o, t, u, n, e, ho, hc, hd⟩ := p
  exact ⟨a, o, t, u, n, e, k _ _ ho hc, hc, hd⟩
theorem firsts_si {h : Heap} : ∀ {vs : List Value}, (∀ v ∈ vs, ∃ x y, IsSI h v x y) → ∃ fs : List Value, PySem.W.KatTups h vs fs ∧ fs.length = vs.length ∧ ∀ f ∈ fs, ∃ x t, f = Value.str x t
  | [], _ => ⟨[], PySem.W.KatTups.nil, rfl, fun f hf => by simp at hf⟩
  | v :: vs, x => by
    obtain ⟨fs, k, hl, hi⟩ := firsts_si (vs := vs) fun u hu => x u (List.mem_cons_of_mem _ hu)
    obtain ⟨y, z, a, o, t, u, n, rfl, ho, hc, hd⟩ := x v (List.mem_cons_self ..)
    refine ⟨.str y t :: fs, PySem.W.KatTups.cons ho hc hd rfl k, congrArg Nat.succ hl, fun f hf => ?_⟩
    rcases List.mem_cons.mp hf with e | e
    · exact ⟨y, t, e⟩
    · exact hi f e
section
variable {prog : Program} {w : World} {A : Around} {s : Shared} {E : Value → Shared → Prop}
theorem si_cmp {vs : List Value} {k : Value → Str × Int} (hp : ∀ v ∈ vs, IsSI s.heap v (k v).1 (k v).2) : Cmp prog w A s (tuples' true) (fun p => p.1 ∈ vs) (lt2 fun v u => lexS (k v) (k u)) := by
  intro p q hm hm'
  have h1 := hp _ hm
  have h2 := hp _ hm'
  show wpAny (model prog w) A (keyLt' (tuples' true) p.1 q.1) (fun r s' => s' = s ∧ r = lexS (k p.1) (k q.1)) (fun _ _ => False) s
  unfold lexS
  generalize (k p.1).1 = x at h1 ⊢
  generalize (k p.1).2 = y at h1 ⊢
  generalize (k q.1).1 = x' at h2 ⊢
  generalize (k q.1).2 = y' at h2 ⊢
  obtain ⟨a, o, t, u, n, e, ho, hc, hd⟩ := h1
  obtain ⟨a', o', t', u', n', e', ho', hc', hd'⟩ := h2
  rw [e, e']
  refine PySem.W.kat_lt ho hd ho' hd' ?_
  show PySem.W.KatLex prog w A true (decide (2 < 2)) _ [(.str x t, .str x' t'), (.int y u, .int y' u')] 0 s
  refine PySem.W.kat_cons (SeqAt.EqAt.str_str x t x' t' prog w _ _ ?_)
  refine PySem.W.kat_go (fun e1 => ?_) (fun e1 => ?_)
  · have ex : x = x' := by simpa using e1
    refine PySem.W.kat_yes (PySem.W.kat_cons (SeqAt.EqAt.int_int y u y' u' prog w _ _ ?_))
    refine PySem.W.kat_go (fun e2 => ?_) (fun e2 => ?_)
    · have ey : y = y' := by simpa using e2
      have e3 : (if x = x' then decide (y < y') else decide (x.cps.toList < x'.cps.toList)) = false := by
        rw [if_pos ex, ey]
        exact decide_eq_false (Int.lt_irrefl _)
      exact PySem.W.kat_yes (PySem.W.kat_nil ⟨rfl, e3.symm⟩)
    · have e3 : (if x = x' then decide (y < y') else decide (x.cps.toList < x'.cps.toList)) = decide (y < y') := if_pos ex
      refine PySem.W.kat_no (PySem.W.kat_one _ _ (PyProof.Rows.lt_int ?_))
      exact (show s = s ∧ decide (y < y') = (if x = x' then decide (y < y') else decide (x.cps.toList < x'.cps.toList)) from ⟨rfl, e3.symm⟩)
  · have ex : ¬ x = x' := by simpa using e1
    have e3 : (if x = x' then decide (y < y') else decide (x.cps.toList < x'.cps.toList)) = decide (x.cps.toList < x'.cps.toList) := if_neg ex
    exact PySem.W.kat_no (PyProof.Rows.oneLt_str ⟨rfl, e3.symm⟩)
theorem si_sortable {a : Addr} {vs : List Value} {k : Value → Str × Int} (h0 : 0 < vs.length) (hp : ∀ v ∈ vs, IsSI s.heap v (k v).1 (k v).2) (ha : ∀ o, s.heap.get? a = some o → o.cls ≠ .type "tuple") : SortableO prog w A s a vs fun v u => lexS (k v) (k u) := by
  intro h' keep
  have hp' : ∀ v ∈ vs, IsSI h' v (k v).1 (k v).2 := fun v hm => (hp v hm).keeps fun b o e c => keep b o (fun z => by subst z; exact ha o e c) e
  obtain ⟨fs, h1, h2, h3⟩ := firsts_si fun v hm => ⟨_, _, hp' v hm⟩
  refine ⟨tuples' true, fun Q E hq => ?_, si_cmp hp'⟩
  refine PySem.W.kat_kind (T := .type "str") h1 (by omega) (fun f hm => ?_) (by rfl) ?_
  · obtain ⟨x, t, rfl⟩ := h3 f hm
    exact PySem.W.Looks.now
  · have e : (Value.type "str" != Value.type "tuple") = true := by first | decide +kernel | rfl | decide
    rw [e]
    exact hq
end
end UPS
namespace UP
open PySem PySem.Spec PyProof.Rows L2 L2.DX
abbrev entK (e : Str × Int) : L2.Key × V := (Sum.inr e.1, V.int e.2)
def rItemsK : V → List V → Hp → VK → Prop := fun x xs H Q => ∃ (a : Addr) (kvs : List (L2.Key × V)), x = .ref a ∧ xs = [] ∧ H a = some (.dK kvs) ∧ ∀ p, H p = none → Q (.ref p) (upd H p (itemsO p a))
def rSortKI : List V → Hp → VK → Prop := fun vs H Q => ∃ (p a : Addr) (ks : List Run), vs = [.ref p] ∧ H p = some (itemsO p a) ∧ H a = some (.dK (ks.map entK)) ∧
  ∀ H' l out, Same H H' → H l = none → Runs H' l out → out.Perm ks → out.Pairwise (fun x y => UPS.lexS y x = false) → Q (.ref l) H'
section
variable {X : Cx}
theorem mt_itemsK : MtR X "dict.items" rItemsK := by
  intro pins s σ H x xs v us Q I rx rxs h
  obtain ⟨a, kvs, rfl, rfl, ha, q⟩ := h
  cases rx
  cases rxs
  obtain ⟨z, hd, vs, rel, dd⟩ := dk_of I.hok ha
  obtain ⟨es, ep, hr, _⟩ := dd.raw
  refine DT.callItems (es := es) (ep := ep) hd hr ?_
  have hf : H s.heap.objs.size = none := I.hok.fresh (Nat.le_refl _)
  exact ⟨.ref s.heap.objs.size, upd H s.heap.objs.size (itemsO s.heap.objs.size a), I.laid (t' := s.toks) (fun b u e => Heap.get?_push_of_some _ e) (Nat.le_refl _) (itemsO_ok (Heap.get?_push_size _ rfl)), rfl, q _ hf⟩
theorem kV_str {k : Str} {P : Program} {w : World} {u : Value} (h : (mixKind P w).is (Sum.inr k) u = true) : ∃ t, u = .str k t := Value.isStrOf_shape h
theorem paired_of {α β : Type} {F : α → β → Prop} : ∀ (l : List α) (f : α → β), (∀ a ∈ l, F a (f a)) → Paired F l (l.map f)
  | [], _, _ => .nil
  | a :: t, f, h => .cons (h a (List.mem_cons_self ..)) (paired_of t f fun b hb => h b (List.mem_cons_of_mem _ hb))
theorem paired_map {α α' β β' : Type} {F : α' → β' → Prop} (f : α → α') (g : β → β') : ∀ {l : List α} {m : List β}, Paired (fun a b => F (f a) (g b)) l m → Paired F (l.map f) (m.map g)
  | _, _, .nil => .nil
  | _, _, .cons h t => .cons h (paired_map f g t)
theorem cr_sortedKI (hc : X.calm = true) : CallR X (.builtin "sorted") rSortKI := by
  intro pins s σ H xs us Q I r h
  obtain ⟨p, a, ks, rfl, hp, ha, q⟩ := h
  obtain rfl := Vals.ref1 r
  have view : s.heap.IsItemsView p a := (show ObjOk X.prog X.w H s.heap p (itemsO p a) from I.hok p _ hp).1
  obtain ⟨z, hd, vs, rel, dd⟩ := dk_of I.hok ha
  obtain ⟨es, ep, hr, hsz, hget⟩ := dd.raw
  have l1 : (ks.map entK).length = vs.length := rel.length
  rw [List.length_map] at l1 z
  have hh : X.A.handled = none := I.ok.hd hc
  refine DT.sortedI (es := es) (ep := ep) hh view hr (by omega) fun h' tk as hk hlt hl hG => ?_
  have lak : as.length = ks.length := by omega
  have nd : as.Nodup := List.Pairwise.imp (fun h => Nat.ne_of_lt h) hG.rise
  -- the pairs that were made
  have pr : ∀ (j : Nat) (b : Addr), as[j]? = some b → ∃ (e : Run) (t u : Tok), ks[j]? = some e ∧ h'.get? b = some { cls := .type "tuple", data := .seq #[Value.str e.1 t, Value.int e.2 u] } := by
    intro j b hj
    obtain ⟨en, he, hg⟩ := hG.pairs j b hj
    have hjs : j < es.size := (Array.getElem?_eq_some_iff.mp he).1
    have hjk : j < ks.length := by omega
    have een : es[j] = en := (Array.getElem?_eq_some_iff.mp he).2
    have hjv : j < vs.length := by omega
    obtain ⟨y, ey, r1, r2⟩ := pget rel (List.getElem?_eq_getElem hjv)
    rw [List.getElem?_map, List.getElem?_eq_getElem hjk] at ey
    have ey : entK ks[j] = y := Option.some.inj ey
    have hv : vs[j]? = some ((Sum.inr (ks[j]).1 : L2.Key), (vs[j]).2) := by
      rw [List.getElem?_eq_getElem hjv]
      congr 1
      refine Prod.ext ?_ rfl
      rw [← r1, ← ey]
    obtain ⟨g1, g2⟩ := hget j hjs _ _ hv
    obtain ⟨t, et⟩ := kV_str g1
    rw [← ey] at r2
    obtain ⟨u, eu⟩ := (show ∃ u, (vs[j]).2 = Value.int (ks[j]).2 u from r2)
    refine ⟨ks[j], t, u, List.getElem?_eq_getElem hjk, ?_⟩
    rw [hg, ← een, et, g2, eu]
  have hob : (h'.push { cls := .type "list", data := .seq (as.map Value.ref).toArray }).get? h'.objs.size = some (seqObj "list" (as.map Value.ref).toArray 0) := Heap.get?_push_size _ rfl
  have kb : ∀ b o, s.heap.get? b = some o → (h'.push { cls := .type "list", data := .seq (as.map Value.ref).toArray }).get? b = some o := fun b o e => Heap.get?_push_of_some _ (hk b o e)
  have ne0 : ∀ b o, h'.get? b = some o → b ≠ h'.objs.size := fun b o e => Nat.ne_of_lt (Heap.lt_size e)
  generalize hh2 : h'.push { cls := .type "list", data := .seq (as.map Value.ref).toArray } = h2 at hob kb ⊢
  have ka : ∀ b o, h'.get? b = some o → h2.get? b = some o := fun b o e => by rw [← hh2]; exact Heap.get?_push_of_some _ e
  -- what stands for what
  obtain ⟨kf, hkf⟩ : ∃ kf : Value → Str × Int, ∀ (j : Nat) (b : Addr), as[j]? = some b → ks[j]? = some (kf (.ref b)) := by
    refine ⟨fun v => match v with | .ref b => (ks[as.idxOf b]?).getD ("", 0) | _ => ("", 0), fun j b hj => ?_⟩
    obtain ⟨hjl, ej⟩ := List.getElem?_eq_some_iff.mp hj
    have ei : as.idxOf b = j := by
      rw [← ej]
      exact List.Nodup.idxOf_getElem nd j hjl
    show ks[j]? = some ((ks[as.idxOf b]?).getD ("", 0))
    rw [ei, List.getElem?_eq_getElem (by omega)]
    rfl
  have pin : ∀ v ∈ as.map Value.ref, UPS.IsSI h2 v (kf v).1 (kf v).2 := by
    intro v hv'
    obtain ⟨b, hb, rfl⟩ := List.mem_map.mp hv'
    obtain ⟨j, hj⟩ := List.mem_iff_getElem?.mp hb
    obtain ⟨e, t, u, he, hg⟩ := pr j b hj
    have ek := hkf j b hj
    rw [he] at ek
    have ek := Option.some.inj ek
    rw [← ek]
    exact ⟨b, _, t, u, 0, rfl, ka _ _ hg, rfl, rfl⟩
  refine wpAny_call_entry PyProof.Rows.slot_list_sort ⟨_, hob, rfl⟩ PyProof.Rows.entry_list_sort
    (SrtO.list_sort_ord (s := { s with heap := h2, toks := tk }) (ltv := fun v u => UPS.lexS (kf v) (kf u)) ⟨fun x y => UPS.swoS.asym _ _, fun x y z => UPS.swoS.tr _ _ _⟩ hob (by rw [List.length_map]; omega) (fun h2' => ?_) fun out hs hb => ⟨_, rfl, ?_⟩) (PyProof.Rows.args_list_sort _)
  · refine UPS.si_sortable (s := { s with heap := h2, toks := tk }) (by omega) pin fun o e => ?_
    have e' : some o = some (seqObj "list" (as.map Value.ref).toArray 0) := e.symm.trans hob
    cases e'
    intro c
    exact absurd (Value.type.inj c) (by decide)
  · show EP X pins σ Q (.ref h'.objs.size) { s with heap := sortedHeap h2 h'.objs.size (as.map Value.ref) out.toArray, toks := tk }
    obtain ⟨zs, pz, ez⟩ : ∃ zs : List Addr, zs.Perm as ∧ zs.map Value.ref = out := by
      have := hb.perm
      obtain ⟨zs, p1, p2⟩ := perm_lift Value.ref this as rfl
      exact ⟨zs, p1, p2⟩
    have kF : ∀ b o, b ≠ h'.objs.size → h2.get? b = some o → (sortedHeap h2 h'.objs.size (as.map Value.ref) out.toArray).get? b = some o := fun b o hb e => (PyProof.Rows.sortedHeap_old hb (Heap.lt_size e)).trans e
    have kS : ∀ b o, s.heap.get? b = some o → (sortedHeap h2 h'.objs.size (as.map Value.ref) out.toArray).get? b = some o := fun b o e => kF b o (ne0 _ _ (hk b o e)) (kb b o e)
    obtain ⟨eF, heF⟩ := PyProof.Rows.sortedHeap_at (vs := as.map Value.ref) (out := out.toArray) hob
    have I1 : Inv X pins σ H { s with heap := sortedHeap h2 h'.objs.size (as.map Value.ref) out.toArray, toks := tk } := I.kept (t' := tk) kS
    have hn0 : H h'.objs.size = none := I.hok.fresh (Nat.le_of_lt hlt)
    have lz : zs.length = ks.length := by rw [pz.length_eq, lak]
    have I2 : Inv X pins σ (upd H h'.objs.size (.lst (zs.map V.ref))) { s with heap := sortedHeap h2 h'.objs.size (as.map Value.ref) out.toArray, toks := tk } :=
      I1.take (h' := sortedHeap h2 h'.objs.size (as.map Value.ref) out.toArray) (t' := tk) (fun b ob _ e => e) (I.fpOk (Nat.le_of_lt hlt) hn0) ⟨by rw [List.length_map, lz]; exact z, out, eF, by rw [← ez]; exact vals_maps (fun z : Addr => V.ref z) (fun z => Value.ref z) zs fun _ _ => rfl, heF⟩
    obtain ⟨H2, I3, g, qt⟩ := takeT (P := fun b vs => vs = [.str (kf (.ref b)).1, .int (kf (.ref b)).2]) I as _ I2 nd fun b hb => by
      obtain ⟨j, hj⟩ := List.mem_iff_getElem?.mp hb
      obtain ⟨e, t, u, he, hg⟩ := pr j b hj
      have ek := hkf j b hj
      rw [he] at ek
      have ek := Option.some.inj ek
      have hbl : s.heap.objs.size ≤ b := Nat.le_of_lt (hG.above b hb)
      refine ⟨hbl, ?_, [.str e.1, .int e.2], by rw [← ek], fun H3 => ⟨(by rw [sizeLine_eq]; show 2 ≤ 16777216; omega), [Value.str e.1 t, Value.int e.2 u], .cons ⟨t, rfl⟩ (.cons ⟨u, rfl⟩ .nil), ⟨_, kF _ _ (ne0 _ _ hg) (ka _ _ hg), rfl, 0, rfl⟩⟩⟩
      rw [upd_ne (ne0 _ _ hg)]
      exact I.hok.fresh hbl
    have gr : Same H H2 := fun b o e => g b o (by rw [upd_ne (ne_of_none e hn0)]; exact e)
    refine ⟨.ref h'.objs.size, H2, I3, rfl, q H2 h'.objs.size (zs.map fun b => kf (.ref b)) gr hn0 ⟨zs.map V.ref, g _ _ upd_same, ?_⟩ ?_ ?_⟩
    · refine paired_map V.ref (fun b => kf (.ref b)) ?_
      have := paired_of (F := fun (b : Addr) (c : Addr) => RunV H2 (V.ref b) (kf (.ref c))) zs id fun b hb => by
        obtain ⟨vs', e1, e2⟩ := qt b (pz.mem_iff.mp hb)
        rw [e1] at e2
        exact ⟨b, rfl, e2⟩
      rw [List.map_id] at this
      exact this
    · have e1 : (as.map fun b => kf (.ref b)) = ks := by
        refine List.ext_getElem? fun j => ?_
        rw [List.getElem?_map]
        cases hj : as[j]? with
        | none =>
          have : as.length ≤ j := List.getElem?_eq_none_iff.mp hj
          rw [List.getElem?_eq_none_iff.mpr (by omega)]
          rfl
        | some b =>
          rw [hkf j b hj]
          rfl
      rw [← e1]
      exact pz.map _
    · have hs : out.Pairwise (fun v u => UPS.lexS (kf u) (kf v) = false) := hs
      rw [← ez, List.pairwise_map] at hs
      rw [List.pairwise_map]
      exact hs
/-! ### sorted(list of runs) -/
def kyR (H : Hp) : V → Run
  | .ref t => match H t with
    | some (.tup [.str a, .int b]) => (a, b)
    | _ => ("", 0)
  | _ => ("", 0)
theorem kyR_of {H : Hp} {v : V} {r : Run} (h : RunV H v r) : kyR H v = r := by
  obtain ⟨t, rfl, ht⟩ := h
  show (match H t with | some (.tup [.str a, .int b]) => (a, b) | _ => (("" : Str), (0 : Int))) = r
  rw [ht]
def rSortR : List V → Hp → VK → Prop := fun vs H Q => ∃ (a : Addr) (ks : List Run), vs = [.ref a] ∧ Runs H a ks ∧
  ∀ H' l out, Same H H' → H l = none → Runs H' l out → out.Perm ks → out.Pairwise (fun x y => UPS.lexS y x = false) → Q (.ref l) H'
theorem kyR_map {H : Hp} : ∀ {xs : List V} {ks : List Run}, Paired (RunV H) xs ks → xs.map (kyR H) = ks
  | _, _, .nil => rfl
  | _, _, .cons h t => by rw [List.map_cons, kyR_of h, kyR_map t]
theorem paired_ky {H : Hp} : ∀ (xs : List V), (∀ x ∈ xs, ∃ r, RunV H x r) → Paired (RunV H) xs (xs.map (kyR H))
  | [], _ => .nil
  | x :: t, h => by
    obtain ⟨r, hr⟩ := h x (List.mem_cons_self ..)
    refine .cons ?_ (paired_ky t fun y hy => h y (List.mem_cons_of_mem _ hy))
    rw [kyR_of hr]
    exact hr
theorem paired_mem {α β : Type} {F : α → β → Prop} : ∀ {xs : List α} {ys : List β}, Paired F xs ys → ∀ x ∈ xs, ∃ y, F x y
  | _, _, .cons h t, x, hx => by
    rcases List.mem_cons.mp hx with e | hx
    · rw [e]
      exact ⟨_, h⟩
    · exact paired_mem t x hx
theorem cr_sortedR : CallR X (.builtin "sorted") rSortR := by
  intro pins s σ H vs us Q I r h
  obtain ⟨a, ks, rfl, ⟨xs, hx, hp⟩, q⟩ := h
  obtain ⟨its, rv, hl, hz⟩ := I.list (SqL.of hx)
  obtain rfl := Vals.ref1 r
  obtain ⟨e1, e2⟩ := refs_back rv fun x m => by
    obtain ⟨y, t, e, _⟩ := paired_mem hp x m
    exact ⟨t, e⟩
  refine SrtO.sorted_ord (ltv := fun v u => UPS.lexS (kyR H (backV v)) (kyR H (backV u))) ⟨fun x y => UPS.swoS.asym _ _, fun x y z => UPS.swoS.tr _ _ _⟩ hl.isList (by rw [← rv.length]; exact hz) (fun h2 h₁ a' ha kk => ?_) fun out hs hb => ?_
  · refine UPS.si_sortable (s := { s with heap := h₁ }) (k := fun u => kyR H (backV u)) (by omega) (fun v hv => ?_) fun o e => ?_
    · obtain ⟨t, rfl⟩ := e2 v hv
      have hm : V.ref t ∈ xs := by rw [e1]; exact List.mem_map.mpr ⟨_, hv, rfl⟩
      obtain ⟨y, hy⟩ := paired_mem hp _ hm
      rw [show kyR H (backV (.ref t)) = y from kyR_of hy]
      obtain ⟨t', e, ht⟩ := hy
      cases e
      obtain ⟨_, its2, r2, o, ho, hc, n, hd⟩ := I.hok _ _ ht
      obtain ⟨u1, u2, rfl, ri, rj⟩ := vals2 r2
      obtain ⟨t1, rfl⟩ := ri
      obtain ⟨t2, rfl⟩ := rj
      exact ⟨t, o, t1, t2, n, rfl, (kk _ _ ho).2, hc, hd⟩
    · have e' : some o = some (seqObj "list" its.toArray 0) := e.symm.trans ha
      cases e'
      intro c
      exact absurd (Value.type.inj c) (by decide)
  · have h3 : ∀ u ∈ out, ∃ a, u = Value.ref a := fun u hu => e2 u (hb.perm.mem_iff.mp hu)
    obtain ⟨n, hn⟩ := sortedAll_at s.heap its out.toArray
    have pm : (out.map backV).Perm xs := by
      rw [e1]
      exact hb.perm.map backV
    have hd : s.heap.objs.size ≤ s.heap.objs.size + 1 := Nat.le_succ _
    have hn0 := I.hok.fresh hd
    refine ⟨.ref _, upd H (s.heap.objs.size + 1) (.lst (out.map backV)), I.laid (t' := s.toks) (fun b o e => sortedAll_old e) hd ⟨?_, out, n, vals_back h3, hn⟩, rfl, q _ _ ((out.map backV).map (kyR H)) (same_upd hn0) hn0 ⟨_, upd_same, ?_⟩ ?_ ?_⟩
    · rw [pm.length_eq]
      exact hz
    · exact Paired.imp (fun _ _ => RunV.same (same_upd hn0)) (paired_ky _ fun x hx => paired_mem hp x (pm.mem_iff.mp hx))
    · rw [← kyR_map hp]
      exact pm.map _
    · rw [List.pairwise_map, List.pairwise_map]
      exact hs
end
end UP

set_option Elab.async false
set_option linter.all false
set_option maxRecDepth 100000
set_option maxHeartbeats 4000000
namespace UP
open PySem PySem.Spec PyProof.Rows L2 L2.DX
/-! ### kinds counted -/
structure CT (ks : List Run) (its : List Str) : Prop where
  nd : (ks.map (·.1)).Nodup
  val : ∀ e ∈ ks, e.2 = ((its.count e.1 : Nat) : Int)
  cov : ∀ k, k ∈ its ↔ k ∈ ks.map (·.1)
  sum : (ks.map (·.2)).sum = (its.length : Int)
theorem CT.nil : CT [] [] := ⟨List.nodup_nil, (fun e h => by cases h), (fun k => Iff.rfl), rfl⟩
theorem sum_perm {l m : List Run} (h : l.Perm m) : (l.map (·.2)).sum = (m.map (·.2)).sum := by
  induction h with
  | nil => rfl
  | cons x _ ih => rw [List.map_cons, List.map_cons, List.sum_cons, List.sum_cons, ih]
  | swap x y l =>
    simp only [List.map_cons, List.sum_cons]
    omega
  | trans _ _ h1 h2 => exact h1.trans h2
theorem CT.perm {l m : List Run} {its : List Str} (h : l.Perm m) (c : CT m its) : CT l its :=
  ⟨(h.map _).symm.nodup c.nd, fun e he => c.val e (h.mem_iff.mp he), fun k => (c.cov k).trans (h.map _).mem_iff.symm, (sum_perm h).trans c.sum⟩
theorem val_ent {ks : List Run} {k : Str} : valV (ks.map entK) (Sum.inr k) = (ks.find? fun e => decide (e.1 = k)).map fun e => V.int e.2 := by
  induction ks with
  | nil => rfl
  | cons e t ih =>
    rw [List.map_cons]
    by_cases c : e.1 = k
    · have e1 : List.find? (fun e : Run => decide (e.1 = k)) (e :: t) = some e := by
        rw [List.find?_cons, show (decide (e.1 = k)) = true from decide_eq_true c]
      rw [valV_pos (p := entK e) (by show (Sum.inr e.1 : L2.Key) = _; rw [c]), e1]
      rfl
    · have e1 : List.find? (fun e : Run => decide (e.1 = k)) (e :: t) = List.find? (fun e : Run => decide (e.1 = k)) t := by
        rw [List.find?_cons, show (decide (e.1 = k)) = false from decide_eq_false c]
      rw [valV_neg (p := entK e) (fun z => c (Sum.inr.inj z)), e1]
      exact ih
/-- what a dict of counts says of a kind -/
theorem CT.get {ks : List Run} {its : List Str} (c : CT ks its) (k : Str) : (valV (ks.map entK) (Sum.inr k)).getD (.int 0) = .int ((its.count k : Nat) : Int) := by
  rw [val_ent]
  cases h : ks.find? fun e => decide (e.1 = k) with
  | none =>
    have no : k ∉ its := fun hk => by
      obtain ⟨e, he, ek⟩ := List.mem_map.mp ((c.cov k).mp hk)
      have := List.find?_eq_none.mp h e he
      exact this (decide_eq_true ek)
    rw [List.count_eq_zero_of_not_mem no]
    rfl
  | some e =>
    have e0 := List.find?_some (p := fun e : Run => decide (e.1 = k)) h
    have e1 : e.1 = k := of_decide_eq_true e0
    have e2 := c.val e (List.mem_of_find?_eq_some h)
    rw [e1] at e2
    show V.int e.2 = _
    rw [e2]
theorem key_map {ks : List Run} {k : Str} {n : Int} : (ks.map entK).map (fun kv => if kv.1 = (Sum.inr k : L2.Key) then (kv.1, V.int n) else kv) = (ks.map fun e => if e.1 = k then (e.1, n) else e).map entK := by
  rw [List.map_map, List.map_map]
  refine List.map_congr_left fun e _ => ?_
  show (if (Sum.inr e.1 : L2.Key) = Sum.inr k then _ else _) = entK (if e.1 = k then (e.1, n) else e)
  by_cases c : e.1 = k
  · rw [if_pos (by rw [c]), if_pos c]
  · rw [if_neg (fun z => c (Sum.inr.inj z)), if_neg c]
theorem sum_set {ks : List Run} {k : Str} {n : Int} {e0 : Run} (nd : (ks.map (·.1)).Nodup) (h : e0 ∈ ks) (e : e0.1 = k) : ((ks.map fun e => if e.1 = k then (e.1, n) else e).map (·.2)).sum = (ks.map (·.2)).sum - e0.2 + n := by
  induction ks with
  | nil => cases h
  | cons x t ih =>
    have nd := List.nodup_cons.mp (show (x.1 :: t.map (·.1)).Nodup from nd)
    simp only [List.map_cons, List.sum_cons]
    by_cases c : x.1 = k
    · have ex : x = e0 := by
        rcases List.mem_cons.mp h with z | z
        · exact z.symm
        · exact absurd (List.mem_map.mpr ⟨e0, z, by rw [e, c]⟩) nd.1
      have keep : (t.map fun e => if e.1 = k then (e.1, n) else e) = t := by
        refine (List.map_congr_left fun y hy => ?_).trans (List.map_id _)
        have : ¬ y.1 = k := fun z => nd.1 (List.mem_map.mpr ⟨y, hy, by rw [z, c]⟩)
        rw [if_neg this]
        rfl
      have e9 : (t.map fun e => if e.1 = k then (e.1, n) else e).map (·.2) = t.map (·.2) := by rw [keep]
      rw [if_pos c, ex]
      show n + ((t.map fun e => if e.1 = k then (e.1, n) else e).map (·.2)).sum = e0.2 + (t.map (·.2)).sum - e0.2 + n
      rw [e9]
      omega
    · have h' : e0 ∈ t := by
        rcases List.mem_cons.mp h with z | z
        · rw [z] at e
          exact absurd e c
        · exact z
      have := ih nd.2 h'
      rw [if_neg c, this]
      omega
theorem CT.put {ks : List Run} {its : List Str} (c : CT ks its) (k : Str) (n : Nat) (hn : 1 ≤ n) : ∃ ks', putK (ks.map entK) (Sum.inr k) (.int (((its.count k : Nat) : Int) + (n : Int))) = ks'.map entK ∧ CT ks' (its ++ List.replicate n k) ∧ ks'.length ≤ ks.length + 1 := by
  have cnt : ∀ j : Str, (its ++ List.replicate n k).count j = its.count j + if j = k then n else 0 := by
    intro j
    rw [List.count_append, List.count_replicate]
    congr 1
    by_cases e : j = k
    · rw [if_pos e, if_pos (by rw [e]; exact beq_self_eq_true k)]
    · rw [if_neg e, if_neg (fun z => e (eq_of_beq z).symm)]
  have mem : ∀ j : Str, j ∈ its ++ List.replicate n k ↔ j ∈ its ∨ j = k := by
    intro j
    rw [List.mem_append, List.mem_replicate]
    exact ⟨fun h => h.elim .inl fun z => .inr z.2, fun h => h.elim .inl fun z => .inr ⟨by omega, z⟩⟩
  by_cases hk : k ∈ its
  · have hk' := (c.cov k).mp hk
    obtain ⟨e0, he0, ek⟩ := List.mem_map.mp hk'
    have any : ((ks.map entK).any fun kv => decide (kv.1 = (Sum.inr k : L2.Key))) = true := by
      rw [List.any_eq_true]
      exact ⟨entK e0, List.mem_map.mpr ⟨e0, he0, rfl⟩, decide_eq_true (by show (Sum.inr e0.1 : L2.Key) = _; rw [ek])⟩
    have keys : (ks.map fun e => if e.1 = k then (e.1, ((its.count k : Nat) : Int) + (n : Int)) else e).map (·.1) = ks.map (·.1) := by
      rw [List.map_map]
      refine List.map_congr_left fun e _ => ?_
      show (if e.1 = k then (e.1, ((its.count k : Nat) : Int) + (n : Int)) else e).1 = e.1
      split <;> rfl
    refine ⟨ks.map fun e => if e.1 = k then (e.1, ((its.count k : Nat) : Int) + (n : Int)) else e, ?_, ⟨by rw [keys]; exact c.nd, fun e he => ?_, fun j => ?_, ?_⟩, by rw [List.length_map]; omega⟩
    · unfold putK
      rw [if_pos any, key_map]
    · obtain ⟨x, hx, ex⟩ := List.mem_map.mp he
      rw [← ex, cnt]
      by_cases d : x.1 = k
      · rw [if_pos d]
        show ((its.count k : Nat) : Int) + (n : Int) = ((its.count x.1 + if x.1 = k then n else 0 : Nat) : Int)
        rw [if_pos d, d]
        omega
      · rw [if_neg d, if_neg d]
        exact c.val x hx
    · rw [keys, mem, c.cov j]
      exact ⟨fun h => h.elim id fun z => by rw [z]; exact hk', .inl⟩
    · rw [sum_set c.nd he0 ek, c.sum, c.val e0 he0, ek, List.length_append, List.length_replicate]
      omega
  · have hk' : k ∉ ks.map (·.1) := fun z => hk ((c.cov k).mpr z)
    have any : ¬ ((ks.map entK).any fun kv => decide (kv.1 = (Sum.inr k : L2.Key))) = true := by
      rw [List.any_eq_true]
      rintro ⟨kv, h1, h2⟩
      obtain ⟨e, he, ee⟩ := List.mem_map.mp h1
      have := of_decide_eq_true h2
      rw [← ee] at this
      exact hk' (List.mem_map.mpr ⟨e, he, Sum.inr.inj this⟩)
    have z0 : its.count k = 0 := List.count_eq_zero_of_not_mem hk
    refine ⟨ks ++ [(k, ((its.count k : Nat) : Int) + (n : Int))], ?_, ⟨?_, fun e he => ?_, fun j => ?_, ?_⟩, by rw [List.length_append]; exact Nat.le_refl _⟩
    · unfold putK
      rw [if_neg any, List.map_append]
      rfl
    · rw [List.map_append]
      refine List.nodup_append.mpr ⟨c.nd, List.nodup_cons.mpr ⟨by simp, List.nodup_nil⟩, fun a ha b hb => ?_⟩
      rw [List.mem_singleton.mp hb]
      intro z
      rw [z] at ha
      exact hk' ha
    · rw [cnt]
      rcases List.mem_append.mp he with z | z
      · have ne : e.1 ≠ k := fun w => hk' (List.mem_map.mpr ⟨e, z, w⟩)
        rw [if_neg ne]
        exact c.val e z
      · rw [List.mem_singleton.mp z]
        show ((its.count k : Nat) : Int) + (n : Int) = ((its.count k + if k = k then n else 0 : Nat) : Int)
        rw [if_pos rfl]
        omega
    · rw [mem, List.map_append, List.mem_append, c.cov j]
      show _ ∨ _ ↔ _ ∨ j ∈ [k]
      rw [List.mem_singleton]
    · rw [List.map_append, List.sum_append, c.sum, List.length_append, List.length_replicate, z0]
      show _ + ((((0 : Nat) : Int) + (n : Int)) + 0) = _
      omega
/-! ### sorted counts are unique -/
theorem Same.butB {H H1 H' : Hp} {D : Addr} (n : H D = none) (s : Same H H1) (b : But D H1 H') : Same H H' := fun a o e => b _ _ (ne_of_none e n) (s _ _ e)
def ltR (x y : Run) : Prop := x.1.cps.toList < y.1.cps.toList
theorem uniq_sorted : ∀ {l m : List Run}, l.Pairwise ltR → m.Pairwise ltR → (∀ x, x ∈ l ↔ x ∈ m) → l = m
  | [], [], _, _, _ => rfl
  | [], b :: m, _, _, h => absurd ((h b).mpr (List.mem_cons_self ..)) (by simp)
  | a :: l, [], _, _, h => absurd ((h a).mp (List.mem_cons_self ..)) (by simp)
  | a :: l, b :: m, hl, hm, h => by
    have hl := List.pairwise_cons.mp hl
    have hm := List.pairwise_cons.mp hm
    have e : a = b := by
      rcases List.mem_cons.mp ((h a).mp (List.mem_cons_self ..)) with z | z
      · exact z
      · rcases List.mem_cons.mp ((h b).mpr (List.mem_cons_self ..)) with w | w
        · exact w.symm
        · exact absurd (hl.1 b w) (List.lt_asymm (hm.1 a z))
    subst e
    congr 1
    refine uniq_sorted hl.2 hm.2 fun x => ⟨fun hx => ?_, fun hx => ?_⟩
    · rcases List.mem_cons.mp ((h x).mp (List.mem_cons_of_mem _ hx)) with z | z
      · rw [z] at hx
        exact absurd (hl.1 a hx) (List.lt_irrefl _)
      · exact z
    · rcases List.mem_cons.mp ((h x).mpr (List.mem_cons_of_mem _ hx)) with z | z
      · rw [z] at hx
        exact absurd (hm.1 a hx) (List.lt_irrefl _)
      · exact z
theorem lt_of_not {x y : Str} (n : x ≠ y) (h : ¬ y.cps.toList < x.cps.toList) : x.cps.toList < y.cps.toList := by
  by_cases c : x.cps.toList < y.cps.toList
  · exact c
  · exact absurd (UPS.str_of (List.le_antisymm h c)) n
theorem CT.strict {ks : List Run} {its : List Str} (c : CT ks its) (s : ks.Pairwise fun x y => UPS.lexS y x = false) : ks.Pairwise ltR := by
  have nd : ks.Pairwise fun x y => x.1 ≠ y.1 := List.pairwise_map.mp c.nd
  refine (List.Pairwise.and nd s).imp fun {x y} h => ?_
  exact lt_of_not h.1 ((UPS.lexS_no.mp h.2).2 fun z => h.1 z.symm)
theorem CT.eq {ks ls : List Run} {its : List Str} (c : CT ks its) (d : CT ls its) (s : ks.Pairwise fun x y => UPS.lexS y x = false) (t : ls.Pairwise fun x y => UPS.lexS y x = false) : ks = ls := by
  have sub : ∀ {a b : List Run}, CT a its → CT b its → ∀ x ∈ a, x ∈ b := by
    intro a b ca cb x hx
    have hk := (ca.cov x.1).mpr (List.mem_map.mpr ⟨x, hx, rfl⟩)
    obtain ⟨e, he, ee⟩ := List.mem_map.mp ((cb.cov x.1).mp hk)
    have : e = x := Prod.ext ee (by rw [cb.val e he, ca.val x hx, ee])
    rw [← this]
    exact he
  exact uniq_sorted (c.strict s) (d.strict t) fun x => ⟨sub c d x, sub d c x⟩
section
variable {P : Program} {w : World} {K : PySem.W.Frag} {mg : Str → Option Value} {base : Heap}
end
end UP

set_option Elab.async false
set_option linter.all false
set_option maxRecDepth 100000
set_option maxHeartbeats 4000000
namespace UP
open PySem PySem.Spec PyProof.Rows L2 L2.DX
theorem eqv_same {a : Bool} (h : a = true) : (!a) = false := by rw [h]; rfl
theorem eqv_runs {rs : List Run} : PyData.eqv (.list (rs.map dRun)) (.list (rs.map dRun)) = true := by
  have gen : ∀ (rs : List Run), PyData.eqvAll (rs.map dRun) (rs.map dRun) = true := by
    intro rs
    induction rs with
    | nil => rfl
    | cons r t ih =>
      rw [List.map_cons, PyData.eqvAll, ih]
      simp [dRun, PyData.eqv, PyData.eqvAll]
  rw [PyData.eqv]
  exact gen rs
theorem eqv_strs {ks : List Str} : PyData.eqv (.list (ks.map PyData.str)) (.list (ks.map PyData.str)) = true := by
  have gen : ∀ (ks : List Str), PyData.eqvAll (ks.map PyData.str) (ks.map PyData.str) = true := by
    intro rs
    induction rs with
    | nil => rfl
    | cons r t ih =>
      rw [List.map_cons, PyData.eqvAll, ih]
      simp [PyData.eqv]
  rw [PyData.eqv]
  exact gen ks
theorem dp_strs {K : PySem.W.Frag} {H : Hp} : ∀ (ks : List Str), DpAll K H (ks.map V.str) (ks.map PyData.str)
  | [] => .nil
  | k :: t => .cons (.str k) (dp_strs t)
theorem shaped_strs {ks : List Str} (h : ∀ k ∈ ks, KindOk k) : SeqAt.shaped (.list (ks.map PyData.str)) = true := by
  have can : ∀ (ks : List Str), (∀ k ∈ ks, KindOk k) → PyData.canLayAll0 (ks.map PyData.str) = true := by
    intro ks
    induction ks with
    | nil => intro _; rfl
    | cons k t ih =>
      intro h
      rw [List.map_cons, PyData.canLayAll0, ih fun x hx => h x (List.mem_cons_of_mem _ hx), PyData.canLay0, (h k (List.mem_cons_self ..)).str]
      rfl
  have dep : ∀ (ks : List Str), PyData.depthAll (ks.map PyData.str) ≤ 1 := by
    intro ks
    induction ks with
    | nil => exact Nat.zero_le _
    | cons k t ih =>
      rw [List.map_cons, PyData.depthAll]
      exact Nat.max_le.mpr ⟨by rw [PyData.depth]; omega, ih⟩
  unfold SeqAt.shaped
  rw [PyData.canLay0, can ks h, PyData.depth]
  have := dep ks
  exact decide_eq_true (by omega)
theorem pick2 {x y r : Int} (h0 : 0 ≤ r) (h1 : r < 2) : ∃ g, atI [V.int x, V.int y] r = some (.int g) ∧ (g = x ∨ g = y) := by
  by_cases h : r = 0
  · subst h
    exact ⟨x, rfl, .inl rfl⟩
  · have e : r = 1 := by omega
    subst e
    exact ⟨y, rfl, .inr rfl⟩
/-! ### parts, by their items -/
theorem cut_its {s e : Int} : ∀ (rs : List Run) (b : Int), (∀ r ∈ rs, 1 ≤ r.2) → itR (cutR s e b rs) = ((itR rs).take (e - b).toNat).drop (s - b).toNat
  | [], b, _ => by
    show ([] : List Str) = (([] : List Str).take _).drop _
    rw [List.take_nil, List.drop_nil]
  | r :: t, b, k => by
    have c1 := k r (List.mem_cons_self ..)
    have ih := cut_its (s := s) (e := e) t (b + r.2) fun x hx => k x (List.mem_cons_of_mem _ hx)
    have e1 : cutR s e b (r :: t) = pieceR b s e r ++ cutR s e (b + r.2) t := rfl
    have e2 : itR (r :: t) = List.replicate r.2.toNat r.1 ++ itR t := rfl
    have ep : itR (pieceR b s e r) = List.replicate (min (e - b).toNat r.2.toNat - (s - b).toNat) r.1 := by
      by_cases hs : 0 < sizeR b s e r.2
      · rw [show pieceR b s e r = [(r.1, sizeR b s e r.2)] from if_pos hs]
        show List.replicate (sizeR b s e r.2).toNat r.1 ++ [] = _
        rw [List.append_nil]
        congr 1
        unfold sizeR at hs ⊢
        split at hs <;> split at hs <;> (first | rw [if_pos (by omega)] | rw [if_neg (by omega)]) <;> (first | rw [if_pos (by omega)] | rw [if_neg (by omega)]) <;> omega
      · rw [show pieceR b s e r = [] from if_neg hs]
        have : min (e - b).toNat r.2.toNat - (s - b).toNat = 0 := by
          unfold sizeR at hs
          split at hs <;> split at hs <;> omega
        rw [this]
        rfl
    rw [e1, it_app, ih, e2, take_app, List.length_replicate, List.take_replicate, List.drop_append, List.length_replicate, List.drop_replicate, ep, show (e - (b + r.2)).toNat = (e - b).toNat - r.2.toNat by omega]
    congr 1
    by_cases h : (e - b).toNat ≤ r.2.toNat
    · rw [show (e - b).toNat - r.2.toNat = 0 by omega, List.take_zero, List.drop_nil, List.drop_nil]
    · rw [show (s - (b + r.2)).toNat = (s - b).toNat - min (e - b).toNat r.2.toNat by omega]
theorem cut_pre {s e : Int} : ∀ (rs : List Run) (b : Int), s ≤ b → (∀ r ∈ rs, 1 ≤ r.2) → ∃ n, (cutR s e b rs).map (·.1) = (rs.map (·.1)).take n
  | [], _, _, _ => ⟨0, rfl⟩
  | r :: t, b, h0, k => by
    have c1 := k r (List.mem_cons_self ..)
    by_cases hs : 0 < sizeR b s e r.2
    · obtain ⟨n, hn⟩ := cut_pre (s := s) (e := e) t (b + r.2) (by omega) fun x hx => k x (List.mem_cons_of_mem _ hx)
      refine ⟨n + 1, ?_⟩
      show (pieceR b s e r ++ cutR s e (b + r.2) t).map (·.1) = r.1 :: (t.map (·.1)).take n
      rw [show pieceR b s e r = [(r.1, sizeR b s e r.2)] from if_pos hs, List.map_append, hn]
      rfl
    · refine ⟨0, ?_⟩
      have il : itR (cutR s e b (r :: t)) = [] := by
        rw [cut_its _ _ k, show (e - b).toNat = 0 by unfold sizeR at hs; split at hs <;> split at hs <;> omega, List.take_zero, List.drop_nil]
      have ll := len_it (cutR s e b (r :: t)) cutR_pos
      rw [il] at ll
      cases hc : cutR s e b (r :: t) with
      | nil => rfl
      | cons x u =>
        rw [hc] at ll
        have px : ∀ y ∈ x :: u, 1 ≤ y.2 := by rw [← hc]; exact cutR_pos
        have := len_mem px x (List.mem_cons_self ..)
        have := px x (List.mem_cons_self ..)
        have ll : ((0 : Nat) : Int) = lenR (x :: u) := ll
        omega
theorem cut_sub {s e : Int} : ∀ (rs : List Run) (b : Int), (∀ r ∈ rs, 1 ≤ r.2) → ∃ m n, (cutR s e b rs).map (·.1) = ((rs.map (·.1)).drop m).take n
  | [], _, _ => ⟨0, 0, rfl⟩
  | r :: t, b, k => by
    have c1 := k r (List.mem_cons_self ..)
    by_cases hb : s < b + r.2
    · by_cases hs : 0 < sizeR b s e r.2
      · obtain ⟨n, hn⟩ := cut_pre (s := s) (e := e) t (b + r.2) (by omega) fun x hx => k x (List.mem_cons_of_mem _ hx)
        refine ⟨0, n + 1, ?_⟩
        show (pieceR b s e r ++ cutR s e (b + r.2) t).map (·.1) = r.1 :: (t.map (·.1)).take n
        rw [show pieceR b s e r = [(r.1, sizeR b s e r.2)] from if_pos hs, List.map_append, hn]
        rfl
      · refine ⟨0, 0, ?_⟩
        have il : itR (cutR s e b (r :: t)) = [] := by
          rw [cut_its _ _ k]
          refine List.drop_of_length_le ?_
          rw [List.length_take]
          unfold sizeR at hs
          split at hs <;> split at hs <;> omega
        have ll := len_it (cutR s e b (r :: t)) cutR_pos
        rw [il] at ll
        cases hc : cutR s e b (r :: t) with
        | nil => rfl
        | cons x u =>
          rw [hc] at ll
          have px : ∀ y ∈ x :: u, 1 ≤ y.2 := by rw [← hc]; exact cutR_pos
          have := len_mem px x (List.mem_cons_self ..)
          have := px x (List.mem_cons_self ..)
          have ll : ((0 : Nat) : Int) = lenR (x :: u) := ll
          omega
    · obtain ⟨m, n, hn⟩ := cut_sub (s := s) (e := e) t (b + r.2) fun x hx => k x (List.mem_cons_of_mem _ hx)
      refine ⟨m + 1, n, ?_⟩
      have hs : ¬ 0 < sizeR b s e r.2 := by
        unfold sizeR
        split <;> split <;> omega
      show (pieceR b s e r ++ cutR s e (b + r.2) t).map (·.1) = ((t.map (·.1)).drop m).take n
      rw [show pieceR b s e r = [] from if_neg hs]
      exact hn
theorem alt_sub {rs hs : List Run} {m n : Nat} (h : hs.map (·.1) = ((rs.map (·.1)).drop m).take n) (a : Alt rs) : Alt hs := by
  intro i x y hx hy
  have g : ∀ (j : Nat) (z : Run), hs[j]? = some z → ∃ w, rs[m + j]? = some w ∧ w.1 = z.1 := by
    intro j z hz
    have := congrArg (fun l : List Str => l[j]?) h
    simp only [List.getElem?_map, hz, List.getElem?_take] at this
    split at this
    · rw [List.getElem?_drop, List.getElem?_map] at this
      cases e : rs[m + j]? with
      | none => rw [e] at this; cases this
      | some w =>
        rw [e] at this
        exact ⟨w, rfl, (Option.some.inj this).symm⟩
    · cases this
  obtain ⟨x', h1, e1⟩ := g i x hx
  obtain ⟨y', h2, e2⟩ := g (i + 1) y hy
  rw [← e1, ← e2]
  exact a (m + i) x' y' h1 h2
theorem cut_kind {s e : Int} : ∀ (rs : List Run) (b : Int), ∀ x ∈ cutR s e b rs, ∃ r ∈ rs, x.1 = r.1 ∧ x.2 ≤ r.2
  | [], _, x, h => by cases h
  | r :: t, b, x, h => by
    rcases List.mem_append.mp (show x ∈ pieceR b s e r ++ cutR s e (b + r.2) t from h) with z | z
    · by_cases hs : 0 < sizeR b s e r.2
      · rw [show pieceR b s e r = [(r.1, sizeR b s e r.2)] from if_pos hs] at z
        rw [List.mem_singleton.mp z]
        refine ⟨r, List.mem_cons_self .., rfl, ?_⟩
        show sizeR b s e r.2 ≤ r.2
        unfold sizeR
        split <;> split <;> omega
      · rw [show pieceR b s e r = [] from if_neg hs] at z
        cases z
    · obtain ⟨r', h1, h2⟩ := cut_kind t _ x z
      exact ⟨r', List.mem_cons_of_mem _ h1, h2⟩
theorem seq_cut {s e : Int} {rs : List Run} (ok : SeqOk rs) : SeqOk (cutR s e 0 rs) := by
  have pos : ∀ r ∈ rs, 1 ≤ r.2 := fun r hr => (ok.2.1 r hr).2.1
  refine ⟨Nat.le_trans (cutR_len s e rs 0) ok.1, fun x hx => ?_, ?_⟩
  · obtain ⟨r, hr, e1, e2⟩ := cut_kind rs 0 x hx
    have o := ok.2.1 r hr
    have l := cutR_pos x hx
    refine ⟨by rw [e1]; exact o.1, l, ?_⟩
    have := o.2.2
    omega
  · obtain ⟨m, n, h⟩ := cut_sub (s := s) (e := e) rs 0 pos
    exact alt_sub h ok.2.2
theorem same_runs {rs cs : List Run} (a : SeqOk rs) (b : SeqOk cs) (h : itR rs = itR cs) : rs = cs := by
  rw [← run_it a.2.2 (fun r hr => (a.2.1 r hr).2.1), ← run_it b.2.2 (fun r hr => (b.2.1 r hr).2.1), h]
theorem it_addc (rs : List Run) (r : Run) (p : ∀ r ∈ rs, 1 ≤ r.2) (c : 1 ≤ r.2) (a : Alt rs) : itR (addR rs r) = itR rs ++ List.replicate r.2.toNat r.1 ∧ (∀ x ∈ addR rs r, 1 ≤ x.2) ∧ Alt (addR rs r) := by
  rcases List.eq_nil_or_concat rs with e0 | ⟨R0, l, e0⟩
  · subst e0
    refine ⟨it_one r.1 r.2, fun x hx => ?_, fun i x y hx hy => by cases hy⟩
    rw [List.mem_singleton.mp (show x ∈ [r] from hx)]
    exact c
  · rw [List.concat_eq_append] at e0
    subst e0
    have c1 := p l (List.mem_append.mpr (.inr (List.mem_singleton.mpr rfl)))
    by_cases h : l.1 = r.1
    · rw [addR_more R0 l r h]
      refine ⟨?_, fun x hx => ?_, ?_⟩
      · rw [it_app, it_app, List.append_assoc, it_one]
        congr 1
        have e : itR [l] = List.replicate l.2.toNat l.1 := it_one l.1 l.2
        rw [e, h, List.replicate_append_replicate]
        congr 1
        omega
      · rcases List.mem_append.mp hx with z | z
        · exact p x (List.mem_append.mpr (.inl z))
        · rw [List.mem_singleton.mp z]
          show 1 ≤ l.2 + r.2
          omega
      · refine alt_sub (rs := R0 ++ [l]) (m := 0) (n := (R0 ++ [l]).length) ?_ a
        rw [List.drop_zero, List.map_append, List.map_append, List.take_of_length_le (by rw [List.length_append, List.length_append, List.length_map]; exact Nat.le_refl _)]
        show R0.map (·.1) ++ [r.1] = R0.map (·.1) ++ [l.1]
        rw [h]
    · rw [addR_new (fun l' hl => by rw [List.getLast?_concat] at hl; cases hl; exact h)]
      refine ⟨by rw [it_app]; congr 1; exact it_one r.1 r.2, fun x hx => ?_, ?_⟩
      · rcases List.mem_append.mp hx with z | z
        · exact p x z
        · rw [List.mem_singleton.mp z]
          exact c
      · refine alt_snoc a fun y hy => ?_
        rw [← List.getLast?_eq_getElem?, List.getLast?_concat] at hy
        cases hy
        exact h
theorem it_join : ∀ (cs rs : List Run), (∀ r ∈ rs, 1 ≤ r.2) → Alt rs → (∀ r ∈ cs, 1 ≤ r.2) → itR (joinR rs cs) = itR rs ++ itR cs ∧ (∀ r ∈ joinR rs cs, 1 ≤ r.2) ∧ Alt (joinR rs cs)
  | [], rs, p, a, _ => by
    refine ⟨?_, p, a⟩
    show itR rs = itR rs ++ []
    rw [List.append_nil]
  | c :: t, rs, p, a, pc => by
    obtain ⟨h1, h2, h3⟩ := it_addc rs c p (pc c (List.mem_cons_self ..)) a
    obtain ⟨g1, g2, g3⟩ := it_join t (addR rs c) h2 h3 fun r hr => pc r (List.mem_cons_of_mem _ hr)
    refine ⟨?_, g2, g3⟩
    show itR (joinR (addR rs c) t) = itR rs ++ (List.replicate c.2.toNat c.1 ++ itR t)
    rw [g1, h1, List.append_assoc]
theorem head_it {rs : List Run} (p : ∀ r ∈ rs, 1 ≤ r.2) : rs.head?.map (·.1) = (itR rs)[0]? := by
  cases rs with
  | nil => rfl
  | cons r t =>
    have c1 := p r (List.mem_cons_self ..)
    obtain ⟨n, hn⟩ : ∃ n : Nat, r.2.toNat = n + 1 := ⟨r.2.toNat - 1, by omega⟩
    show some r.1 = (List.replicate r.2.toNat r.1 ++ itR t)[0]?
    rw [hn]
    rfl
theorem kind_pos {rs : List Run} {m : Int} {k : Str} (p : ∀ r ∈ rs, 1 ≤ r.2) (m0 : 0 ≤ m) (h : (itR rs)[m.toNat]? = some k) : (cutR m (m + 1) 0 rs).head?.map (·.1) = some k := by
  rw [head_it cutR_pos, cut_its _ _ p, List.getElem?_drop, List.getElem?_take, if_pos (by omega), Int.sub_zero, Nat.add_zero]
  exact h
theorem merge_id : ∀ (kvs acc : List (L2.Key × V)), ((acc ++ kvs).map (·.1)).Nodup → mergeK acc kvs = acc ++ kvs
  | [], acc, _ => by
    rw [List.append_nil]
    rfl
  | x :: t, acc, h => by
    have e : (acc ++ [x]) ++ t = acc ++ x :: t := by rw [List.append_assoc]; rfl
    have no : valV acc x.1 = none := by
      cases hv : valV acc x.1 with
      | none => rfl
      | some v =>
        exfalso
        rw [List.map_append] at h
        have h3 := (List.nodup_append.mp h).2.2
        have hm : x.1 ∈ acc.map (·.1) := by
          unfold valV at hv
          cases hf : acc.find? fun kv => decide (kv.1 = x.1) with
          | none => rw [hf] at hv; cases hv
          | some kv =>
            have e1 := List.find?_some (p := fun kv : L2.Key × V => decide (kv.1 = x.1)) hf
            exact List.mem_map.mpr ⟨kv, List.mem_of_find?_eq_some hf, of_decide_eq_true e1⟩
        exact h3 _ hm _ (List.mem_map.mpr ⟨x, List.mem_cons_self .., rfl⟩) rfl
    show mergeK (putK acc x.1 x.2) t = acc ++ x :: t
    rw [putK_new x.2 no, show ((x.1, x.2) : L2.Key × V) = x from rfl, merge_id t (acc ++ [x]) (by rw [e]; exact h), e]
theorem CT.merge {ks : List Run} {its : List Str} (c : CT ks its) : mergeK [] (ks.map entK) = ks.map entK := by
  refine (merge_id _ [] ?_).trans (List.nil_append _)
  rw [List.nil_append, List.map_map]
  have e : ks.map ((fun kv : L2.Key × V => kv.1) ∘ entK) = (ks.map (·.1)).map Sum.inr := by rw [List.map_map]; rfl
  rw [e]
  exact List.pairwise_map.mpr (c.nd.imp fun h z => h (Sum.inr.inj z))
theorem refs_run {H : Hp} : ∀ {xs : List V} {Q : List Run}, Paired (RunV H) xs Q → ∃ ps : List Addr, xs = ps.map V.ref ∧ Paired (fun p q => H p = some (.tup [kV (entK q).1, (entK q).2])) ps Q
  | _, _, .nil => ⟨[], rfl, .nil⟩
  | _, _, .cons ⟨t, e, h⟩ r => by
    obtain ⟨ps, e2, h2⟩ := refs_run r
    exact ⟨t :: ps, by rw [e, e2]; rfl, .cons h h2⟩
theorem Paired.mapr {α β γ : Type} {F : α → β → Prop} {G : α → γ → Prop} {f : β → γ} (h : ∀ a b, F a b → G a (f b)) : ∀ {xs : List α} {ys : List β}, Paired F xs ys → Paired G xs (ys.map f)
  | _, _, .nil => .nil
  | _, _, .cons a r => .cons (h _ _ a) (Paired.mapr h r)
theorem dict_get {H : Hp} {d : Addr} {ks : List Run} {its : List Str} (c : CT ks its) (k : Str) (h : H d = some (.dK (mergeK [] (ks.map entK)))) : ∃ o, DGet H d (.str k) o ∧ o.getD (.int 0) = .int ((its.count k : Nat) : Int) := by
  rw [c.merge] at h
  exact ⟨_, DGet.k (k := Sum.inr k) h, c.get k⟩
end UP

set_option Elab.async false
set_option linter.all false
set_option maxRecDepth 100000
set_option maxHeartbeats 4000000
namespace UP
open PySem PySem.Spec PyProof.Rows L2
/-! ### the reel: a list of two lists of ints and two ints -/
def Reel (H : Hp) (p : Addr) : Prop := ∃ (g c : Addr) (gs cs : List Int) (n s : Int), H p = some (.lst [.ref g, .ref c, .int n, .int s]) ∧ H g = some (.lst (gs.map V.int)) ∧ H c = some (.lst (cs.map V.int)) ∧ gs.length ≤ 63 ∧ (∀ x ∈ gs, 0 ≤ x) ∧ 0 < cs.length ∧ cs.length ≤ 64 ∧ 0 ≤ n ∧ 0 ≤ s ∧ s < 170141183460469231731687303715884105727
def Off (H : Hp) (p D : Addr) : Prop := ∃ (g c : Addr) (n s : Int), H p = some (.lst [.ref g, .ref c, .int n, .int s]) ∧ D ≠ p ∧ D ≠ g ∧ D ≠ c
theorem not_ints {g c : Addr} {n s : Int} {l : List Int} : (HO.lst [.ref g, .ref c, .int n, .int s]) ≠ .lst (l.map V.int) := by
  intro h
  have h := HO.lst.inj h
  cases l with
  | nil => cases h
  | cons x t => cases h
theorem Reel.off {H : Hp} {p D : Addr} (z : Reel H p) (n : H D = none) : Off H p D := by
  obtain ⟨g, c, gs, cs, i, s, hp, hg, hc, _⟩ := z
  exact ⟨g, c, i, s, hp, fun e => by (rw [e, hp] at n; cases n), fun e => by (rw [e, hg] at n; cases n), fun e => by (rw [e, hc] at n; cases n)⟩
theorem Reel.ne {H : Hp} {p D : Addr} (z : Reel H p) (n : H D = none) : D ≠ p := by
  obtain ⟨_, _, _, _, _, h, _⟩ := z.off n
  exact h
theorem Off.ne {H : Hp} {p D : Addr} (z : Off H p D) : D ≠ p := by
  obtain ⟨_, _, _, _, _, h, _⟩ := z
  exact h
theorem Reel.same {H H' : Hp} {p : Addr} (z : Reel H p) (s : Same H H') : Reel H' p := by
  obtain ⟨g, c, gs, cs, i, t, hp, hg, hc, r⟩ := z
  exact ⟨g, c, gs, cs, i, t, s _ _ hp, s _ _ hg, s _ _ hc, r⟩
theorem Off.same {H H' : Hp} {p D : Addr} (z : Off H p D) (s : Same H H') : Off H' p D := by
  obtain ⟨g, c, i, t, hp, r⟩ := z
  exact ⟨g, c, i, t, s _ _ hp, r⟩
theorem Off.upd {H : Hp} {p D D' : Addr} {o : HO} (z : Off H p D) (n : D' ≠ p) : Off (upd H D' o) p D := by
  obtain ⟨g, c, i, t, hp, r⟩ := z
  exact ⟨g, c, i, t, by rw [upd_ne n.symm]; exact hp, r⟩
theorem Reel.upd {H : Hp} {p D : Addr} {x : HO} (z : Reel H p) (o : Off H p D) : Reel (upd H D x) p := by
  obtain ⟨g, c, gs, cs, i, t, hp, hg, hc, r⟩ := z
  obtain ⟨g', c', i', t', hp', n1, n2, n3⟩ := o
  rw [hp] at hp'
  cases hp'
  exact ⟨g, c, gs, cs, i, t, by rw [upd_ne n1.symm]; exact hp, by rw [upd_ne n2.symm]; exact hg, by rw [upd_ne n3.symm]; exact hc, r⟩
/-- all but the reel stays, and what was not of the reel is not of it -/
structure RB (p : Addr) (H H' : Hp) : Prop where
  but : But p H H'
  off : ∀ D o, H D = some o → Off H p D → Off H' p D
theorem RB.refl {p : Addr} {H : Hp} : RB p H H := ⟨But.refl, fun _ _ _ h => h⟩
theorem RB.trans {p : Addr} {H H1 H2 : Hp} (a : RB p H H1) (b : RB p H1 H2) : RB p H H2 := ⟨a.but.trans b.but, fun D o e h => b.off D o (a.but D o h.ne e) (a.off D o e h)⟩
theorem RB.of {p : Addr} {H H' : Hp} (s : Same H H') : RB p H H' := ⟨sb s, fun _ _ _ h => h.same s⟩
theorem RB.free {p q : Addr} {H H' : Hp} (b : RB p H H') (z : Reel H' p) (h : H' q = none) : H q = none := by
  by_cases e : q = p
  · exact absurd e (z.ne h)
  · cases r : H q with
    | none => rfl
    | some o =>
      rw [b.but q o e r] at h
      cases h
theorem RB.grow {p D : Addr} {H H' : Hp} {x : HO} (b : RB p H H') (n : H D = none) (o : Off H' p D) : RB p H (L2.upd H' D x) := ⟨fun q r e h => by
    rw [upd_ne (ne_of_none h n)]
    exact b.but q r e h, fun E r h k => (b.off E r h k).upd o.ne⟩
theorem RB.run {p : Addr} {H H' : Hp} {v : V} {r : Run} (b : RB p H H') (z : Reel H p) (h : RunV H v r) : RunV H' v r := by
  obtain ⟨t, e, h⟩ := h
  obtain ⟨_, _, _, _, _, _, hp, _⟩ := z
  exact ⟨t, e, b.but _ _ (ne_of h hp (by intro q; cases q)) h⟩
theorem RB.st {p : Addr} {H H' : Hp} {v : V} {st : Option Run} (b : RB p H H') (z : Reel H p) (h : StV H v st) : StV H' v st := by
  cases st with
  | none => exact h
  | some r => exact b.run z h
theorem RB.strs {p a : Addr} {H H' : Hp} {ks : List Str} (b : RB p H H') (z : Reel H p) (h : H a = some (.lst (ks.map V.str))) : H' a = some (.lst (ks.map V.str)) := by
  obtain ⟨_, _, _, _, _, _, hp, _⟩ := z
  refine b.but _ _ (ne_of h hp fun q => ?_) h
  have q := HO.lst.inj q
  cases ks with
  | nil => cases q
  | cons x t => cases q
theorem RB.tup {p a : Addr} {H H' : Hp} {xs : List V} (b : RB p H H') (z : Reel H p) (h : H a = some (.tup xs)) : H' a = some (.tup xs) := by
  obtain ⟨_, _, _, _, _, _, hp, _⟩ := z
  exact b.but _ _ (ne_of h hp (by intro q; cases q)) h
/-! ### lists of ints -/
theorem dp_intl {K : PySem.W.Frag} {H : Hp} : ∀ (l : List Int), DpAll K H (l.map V.int) (l.map PyData.int)
  | [] => .nil
  | x :: t => .cons (.int x) (dp_intl t)
theorem can_intl : ∀ (l : List Int), PyData.canLayAll0 (l.map PyData.int) = true
  | [] => by simp [PyData.canLayAll0]
  | x :: t => by
    rw [List.map_cons, PyData.canLayAll0, can_intl t]
    simp [PyData.canLay0]
theorem depth_intl : ∀ (l : List Int), PyData.depthAll (l.map PyData.int) ≤ 1
  | [] => by simp [PyData.depthAll]
  | x :: t => by
    rw [List.map_cons, PyData.depthAll]
    exact Nat.max_le.mpr ⟨by simp [PyData.depth], depth_intl t⟩
theorem shaped_intl (l : List Int) : SeqAt.shaped (.list (l.map PyData.int)) = true := by
  unfold SeqAt.shaped
  rw [PyData.canLay0, can_intl l, PyData.depth]
  have := depth_intl l
  exact decide_eq_true (by omega)
theorem eqv_nilI (l : List Int) : PyData.eqv (.list (l.map PyData.int)) (.list []) = l.isEmpty := by
  cases l with
  | nil => simp [PyData.eqv, PyData.eqvAll]
  | cons r t => simp [PyData.eqv, PyData.eqvAll]
theorem cut_dropR (xs : List V) (r : Int) (h0 : 0 ≤ r) (h1 : r ≤ xs.length) : cutV xs (some r) none = xs.drop r.toNat := by
  have e : HT.sIx xs.length 0 (some r) = r.toNat := by
    have := HT.sIx_nat xs.length 0 r.toNat
    rw [show ((r.toNat : Nat) : Int) = r by omega] at this
    omega
  unfold cutV
  rw [e, HT.sIx_none, List.take_of_length_le (by rw [List.length_drop]; exact Nat.le_refl _)]
theorem atI_ofR {α : Type} {l : List α} {i : Int} {x : α} (h0 : 0 ≤ i) (h : l[i.toNat]? = some x) : atI l i = some x := by
  have e : i = (i.toNat : Int) := by omega
  rw [e]
  exact atI_nat h
theorem at40 {α : Type} {x y z u : α} : atI [x, y, z, u] 0 = some x := rfl
theorem at41 {α : Type} {x y z u : α} : atI [x, y, z, u] 1 = some y := rfl
theorem at42 {α : Type} {x y z u : α} : atI [x, y, z, u] 2 = some z := rfl
theorem at43 {α : Type} {x y z u : α} : atI [x, y, z, u] 3 = some u := rfl
section
variable {P : Program} {w : World} {K : PySem.W.Frag} {mg : Str → Option Value} {base : Heap}
/-! _law_draw: slots 0:reel 1:many 2:extra 3:stir 4:rest -/
abbrev s_law_draw : Stmt := topS 32
theorem sc_law_draw : FnScope ["reel", "many", "extra", "stir", "rest"] ["reel", "many"] (defScope s_law_draw) := ⟨rfl, rfl, rfl, by decide +kernel, rfl, by decide +kernel, by decide +kernel⟩
def sp_law_draw : Sp := fun vs H Q _ => ∃ (p : Addr) (m : Int), vs = [.ref p, .int m] ∧ Reel H p ∧ 1 ≤ m ∧ m.natAbs < 2 ^ 8000 ∧ ∀ H' r, RB p H H' → Reel H' p → 0 ≤ r → r < m → Q (.int r) H'
theorem p127 : (2 : Int) ^ ((64 : Int).toNat) * 2 ^ ((63 : Int).toNat) - 1 = 170141183460469231731687303715884105727 := by decide +kernel
theorem ok_law_draw (D : Df K mg "_law_draw" s_law_draw) (T : Tx mg) : Has P w K mg base 1 "_law_draw" ["reel", "many"] sp_law_draw := by
  refine has_of D sc_law_draw (fun _ _ _ _ _ _ us hl => match us, hl with | [_, _], _ => rfl) (fun vs H Q E h => ?_) (fun f cdv A outer s₀ H vs Q E hr h => ?_)
  · obtain ⟨a, rs, rfl, _⟩ := h
    rfl
  · obtain ⟨p, m, rfl, z, m1, m2, q⟩ := h
    have z0 := z
    obtain ⟨g, c, gs, cs, n, s, hp, hg, hc, lg, g0, lc, lc2, n0, s0, s1⟩ := z
    refine ⟨_, (pss_cons (ps_if (pt_cmpR (op_neD hr.units) (pe_ix ix_list (pv 0) pe_int (fun _ _ => rfl)) (pe_lst pa_nil) (nomark _)) (pss_cons (ps_set (i := 4) sc_law_draw.nd rfl (by first | exact Or.inl rfl | exact Or.inr rfl) (pe_ix ix_list (pe_ix ix_list (pv 0) pe_int (fun _ _ => rfl)) pe_int (fun _ _ => rfl)))
    (pss_cons (ps_asg (pe_op op_cat (pe_op op_rep (pe_lst (pa_cons (pe_op op_fdivW (pv 4) (pv 1)) pa_nil)) (pe_callTy call_int1 (by rfl) T.n_int (by decide +kernel) (pa_cons (pe_cmpR op_ge (pv 4) (pv 1) (nomark _)) pa_nil))) (pe_slice sl_list (pe_ix ix_list (pv 0) pe_int (fun _ _ => rfl)) (po_some pe_int) po_none)) (pg_sub (pv 0) pe_int set_list))
    (pss_one (ps_ret (pe_op op_mod (pv 4) (pv 1)))))) pss_nil)
    (pss_cons (ps_asg (pe_op op_add (pe_ix ix_list (pv 0) pe_int (fun _ _ => rfl)) pe_int) (pg_sub (pv 0) pe_int set_list))
    (pss_cons (ps_set (i := 2) sc_law_draw.nd rfl (by first | exact Or.inl rfl | exact Or.inr rfl) (pe_ix ix_list (pe_ix ix_list (pv 0) pe_int (fun _ _ => rfl)) (pe_op op_mod (pe_ix ix_list (pv 0) pe_int (fun _ _ => rfl)) (pe_callB call_len_seq (by rfl) T.n_len (by decide +kernel) (pa_cons (pe_ix ix_list (pv 0) pe_int (fun _ _ => rfl)) pa_nil))) (fun _ _ => rfl)))
    (pss_cons (ps_set (i := 3) sc_law_draw.nd rfl (by first | exact Or.inl rfl | exact Or.inr rfl) (pe_op op_add (pe_op op_add (pe_op op_mulW (pe_ix ix_list (pv 0) pe_int (fun _ _ => rfl)) (pe_ix ix_list (pv 0) pe_int (fun _ _ => rfl))) (pe_op op_mul (pe_op op_add (pv 2) pe_int) pe_int)) (pe_op op_mul (pe_ix ix_list (pv 0) pe_int (fun _ _ => rfl)) pe_int)))
    (pss_cons (ps_asg (pe_op op_mod (pv 3) (pe_op op_sub (pe_op op_mul (pe_op op_pow pe_int pe_int) (pe_op op_pow pe_int pe_int)) pe_int)) (pg_sub (pv 0) pe_int set_list))
    (pss_one (ps_ret (pe_op op_mod (pe_op op_fdivW (pe_ix ix_list (pv 0) pe_int (fun _ _ => rfl)) (pe_op op_pow pe_int pe_int)) (pv 1))))))))), ?_⟩
    refine ⟨_, rfl, p, _, 0, _, rfl, rfl, .of hp, at40, Nat.zero_le _, fun e ne => ?_⟩
    have se := same_upd (o := .lst []) ne
    refine ⟨.list (gs.map PyData.int), .list [], .lst (.of (se _ _ hg)) (dp_intl gs), .lst (.of upd_same) .nil, shaped_intl gs, shaped_nil, _, rfl, ?_⟩
    rw [eqv_nilI]
    replace hp := se _ _ hp
    replace hg := se _ _ hg
    replace hc := se _ _ hc
    have z1 := z0.same se
    generalize L2.upd H e (.lst []) = H1 at *
    cases gs with
    | cons x t =>
      refine iteP rfl ?_
      have x0 := g0 x (List.mem_cons_self ..)
      refine ⟨_, rfl, p, _, 0, _, rfl, rfl, .of hp, at40, g, _, 0, _, rfl, rfl, .of hg, atI_ofR (Int.le_refl _) rfl, ?_⟩
      refine ⟨_, rfl, _, rfl, _, _, rfl, rfl, wide_div (by omega) m2 (by decide) (by decide), (by show 1 ≤ sizeLine; decide), fun l1 n1 => ?_⟩
      have u1 := same_upd (o := .lst [.int (x / m)]) n1
      refine ⟨_, rfl, _, rfl, _, _, rfl, rfl, .inr ⟨_, rfl, l1, _, _, rfl, rfl, upd_same, ?_⟩⟩
      have hk : ∃ k : Nat, k ≤ 1 ∧ (if decide (m ≤ x) = true then (1 : Int) else 0) = (k : Int) := by
        by_cases y : m ≤ x
        · exact ⟨1, Nat.le_refl _, by rw [decide_eq_true y]; rfl⟩
        · exact ⟨0, Nat.zero_le _, by rw [decide_eq_false y]; rfl⟩
      obtain ⟨k, k1, ek⟩ := hk
      rw [show (if decide (x ≥ m) = true then (1 : Int) else 0) = (k : Int) from ek]
      refine ⟨by omega, by omega, ?_, fun l2 n2 => ?_⟩
      · rw [Int.toNat_natCast]
        show 1 * k ≤ sizeLine
        exact Nat.le_of_lt (small (by omega))
      rw [Int.toNat_natCast, show (List.replicate k [V.int (x / m)]).flatten = (List.replicate k (x / m)).map V.int by rw [List.map_replicate, List.flatten_replicate_singleton]]
      have u2 := same_upd (o := .lst ((List.replicate k (x / m)).map V.int)) n2
      refine ⟨_, rfl, p, _, 0, _, rfl, rfl, .of (u2 _ _ (u1 _ _ hp)), at40, _, rfl, g, _, rfl, SqL.of (u2 _ _ (u1 _ _ hg)), fun l3 n3 => ?_⟩
      rw [cut_dropR _ 1 (by omega) (by rw [List.length_map, List.length_cons]; omega), show ((x :: t).map V.int).drop (1 : Int).toNat = t.map V.int from rfl]
      have u3 := same_upd (o := .lst (t.map V.int)) n3
      refine ⟨l2, l3, _, _, rfl, rfl, u3 _ _ upd_same, upd_same, ?_, fun l4 n4 => ?_⟩
      · rw [List.length_map, List.length_map, List.length_replicate]
        rw [List.length_cons] at lg
        exact Nat.le_of_lt (small (by omega))
      have u4 := same_upd (o := .lst ((List.replicate k (x / m)).map V.int ++ t.map V.int)) n4
      have sA := u1.trans (u2.trans (u3.trans u4))
      refine ⟨_, rfl, p, _, 0, 0, rfl, rfl, sA _ _ hp, rfl, ?_⟩
      refine ⟨_, rfl, _, rfl, _, _, rfl, rfl, (by omega), ?_⟩
      have n4p : l4 ≠ p := (ne_of_none ((u1.trans (u2.trans u3)) _ _ hp) n4).symm
      refine q _ _ ⟨fun b o nb eb => ?_, fun D o eD oD => ?_⟩ ⟨l4, c, List.replicate k (x / m) ++ t, cs, n, s, upd_same, ?_, ?_, ?_, ?_, lc, lc2, n0, s0, s1⟩ (Int.emod_nonneg _ (by omega)) (Int.emod_lt_of_pos _ (by omega))
      · rw [upd_ne nb]
        exact sA _ _ (se _ _ eb)
      · obtain ⟨g', c', i', t', hp', e1, e2, e3⟩ := oD.same se
        rw [hp] at hp'
        cases hp'
        refine ⟨l4, c, n, s, upd_same, e1, ?_, e3⟩
        exact ne_of_none ((u1.trans (u2.trans u3)) _ _ (se _ _ eD)) n4
      · rw [upd_ne n4p, upd_same, List.map_append]
      · rw [upd_ne (ne_of hc hp (fun q => not_ints q.symm))]
        exact sA _ _ hc
      · rw [List.length_append, List.length_replicate]
        rw [List.length_cons] at lg
        omega
      · intro y hy
        rcases List.mem_append.mp hy with h | h
        · rw [List.eq_of_mem_replicate h]
          exact Int.ediv_nonneg x0 (by omega)
        · exact g0 y (List.mem_cons_of_mem _ h)
    | nil =>
      refine iteN rfl ?_
      refine ⟨_, rfl, p, _, 2, _, rfl, rfl, .of hp, at42, _, _, rfl, rfl, ?_⟩
      refine ⟨_, rfl, p, _, 2, 2, rfl, rfl, hp, rfl, ?_⟩
      have np : c ≠ p := ne_of hc hp (fun q => not_ints q.symm)
      have h2 : (L2.upd H1 p (.lst [.ref g, .ref c, .int (n + 1), .int s])) p = some (.lst [.ref g, .ref c, .int (n + 1), .int s]) := upd_same
      have hc2 : (L2.upd H1 p (.lst [.ref g, .ref c, .int (n + 1), .int s])) c = some (.lst (cs.map V.int)) := by rw [upd_ne np]; exact hc
      have ix0 := Int.emod_nonneg (n + 1) (b := (cs.length : Int)) (by omega)
      have ix1 := Int.emod_lt_of_pos (n + 1) (b := (cs.length : Int)) (by omega)
      obtain ⟨x, hx⟩ : ∃ x, cs[((n + 1) % (cs.length : Int)).toNat]? = some x := ⟨_, List.getElem?_eq_getElem (by omega)⟩
      have hx2 : (cs.map V.int)[((n + 1) % (cs.length : Int)).toNat]? = some (.int x) := by rw [List.getElem?_map, hx]; rfl
      refine ⟨_, rfl, p, _, 1, _, rfl, rfl, .of h2, at41, _, rfl, p, _, 2, _, rfl, rfl, .of h2, at42, _, rfl, p, _, 1, _, rfl, rfl, .of h2, at41, c, _, rfl, .inl (.of hc2), ?_⟩
      rw [List.length_map]
      refine ⟨_, _, rfl, rfl, (by omega), c, _, _, _, rfl, rfl, .of hc2, atI_ofR ix0 hx2, ?_⟩
      refine ⟨_, rfl, p, _, 3, _, rfl, rfl, .of h2, at43, _, rfl, p, _, 3, _, rfl, rfl, .of h2, at43, _, _, rfl, rfl, wide_mul (a := 127) (b := 127) (by omega) (by omega) (by decide) (by decide) (by decide), _, rfl, _, _, rfl, rfl, _, _, rfl, rfl, .inr ⟨by decide, by decide⟩, _, _, rfl, rfl, _, rfl, p, _, 2, _, rfl, rfl, .of h2, at42, _, _, rfl, rfl, .inr ⟨by decide, by decide⟩, _, _, rfl, rfl, ?_⟩
      refine ⟨_, rfl, _, _, rfl, rfl, ⟨by decide, by decide, by decide⟩, _, _, rfl, rfl, ⟨by decide, by decide, by decide⟩, _, _, rfl, rfl, .inr ⟨by decide +kernel, by decide +kernel⟩, _, _, rfl, rfl, _, _, rfl, rfl, ?_, ?_⟩
      · rw [p127]
        show (0 : Int) < 170141183460469231731687303715884105727
        decide
      rw [p127]
      refine ⟨_, rfl, p, _, 3, 3, rfl, rfl, h2, rfl, ?_⟩
      have h3 : ∀ y : Int, (L2.upd (L2.upd H1 p (.lst [.ref g, .ref c, .int (n + 1), .int s])) p (.lst [.ref g, .ref c, .int (n + 1), .int y])) p = some (.lst [.ref g, .ref c, .int (n + 1), .int y]) := fun y => upd_same
      refine ⟨_, rfl, p, _, 3, _, rfl, rfl, .of (h3 _), at43, _, _, rfl, rfl, ⟨by decide, by decide, by decide⟩, _, _, rfl, rfl, wide_div (b := 64) (by decide) (by decide) (by decide) (by decide), _, rfl, _, _, rfl, rfl, (by omega), ?_⟩
      have ng : g ≠ p := ne_of hg hp (fun q => not_ints (l := []) q.symm)
      refine q _ _ ⟨fun b o nb eb => ?_, fun D o eD oD => ?_⟩ ⟨g, c, [], cs, n + 1, _, h3 _, ?_, ?_, Nat.zero_le _, (fun y h => by cases h), lc, lc2, by omega, Int.emod_nonneg _ (by decide), Int.emod_lt_of_pos _ (by decide)⟩ (Int.emod_nonneg _ (by omega)) (Int.emod_lt_of_pos _ (by omega))
      · rw [upd_ne nb, upd_ne nb]
        exact se _ _ eb
      · obtain ⟨g', c', i', t', hp', e1, e2, e3⟩ := oD.same se
        rw [hp] at hp'
        cases hp'
        exact ⟨g, c, _, _, h3 _, e1, e2, e3⟩
      · rw [upd_ne ng, upd_ne ng]
        exact hg
      · rw [upd_ne np, upd_ne np]
        exact hc
end
end UP

set_option Elab.async false
set_option linter.all false
set_option maxRecDepth 100000
set_option maxHeartbeats 4000000
namespace UP
open PySem PySem.Spec PyProof.Rows L2
theorem SqL.sameR {K : PySem.W.Frag} {H H' : Hp} {a : Addr} {xs : List V} (h : SqL K H a xs) (s : Same H H') : SqL K H' a xs := h.elim (fun z => .inl (z.elim (fun y => .inl (s _ _ y)) (fun ⟨o, y⟩ => .inr ⟨o, s _ _ y⟩))) (fun z => .inr z)
theorem erase_permR {α : Type} : ∀ (l : List α) (i : Nat) (h : i < l.length), (l[i] :: l.eraseIdx i).Perm l
  | [], i, h => absurd h (Nat.not_lt_zero _)
  | x :: t, 0, _ => List.Perm.refl _
  | x :: t, i + 1, h => by
    have h' : i < t.length := Nat.lt_of_succ_lt_succ h
    show (t[i] :: x :: t.eraseIdx i).Perm (x :: t)
    exact (List.Perm.swap x _ _).trans ((erase_permR t i h').cons x)
theorem cut63 (ns : List Int) : ∃ ms : List Int, cutV (ns.map V.int) none (some 63) = ms.map V.int ∧ ms.length ≤ 63 := by
  refine ⟨_, by unfold cutV; rw [← List.map_drop, ← List.map_take], ?_⟩
  rw [List.length_take, List.length_drop]
  have : HT.sIx (ns.map V.int).length (ns.map V.int).length (some 63) ≤ 63 := by
    have := HT.sIx_nat (ns.map V.int).length (ns.map V.int).length 63
    have e : HT.sIx (ns.map V.int).length (ns.map V.int).length (some 63) = HT.sIx (ns.map V.int).length (ns.map V.int).length (some ((63 : Nat) : Int)) := rfl
    rw [e, this]
    exact Nat.min_le_left ..
  omega
theorem int_at {ms : List Int} {i : Nat} {x : V} (h : (ms.map V.int)[i]? = some x) : ∃ n, x = .int n := by
  rw [List.getElem?_map] at h
  cases e : ms[i]? with
  | none =>
    rw [e] at h
    cases h
  | some n =>
    rw [e] at h
    exact ⟨n, (Option.some.inj h).symm⟩
section
variable {P : Program} {w : World} {K : PySem.W.Frag} {mg : Str → Option Value} {base : Heap}
/-! _law_reel: slots 0:script 1:stir 2:cell 3:great -/
abbrev s_law_reel : Stmt := topS 31
theorem sc_law_reel : FnScope ["script", "stir", "cell", "great"] ["script"] (defScope s_law_reel) := ⟨rfl, rfl, rfl, by decide +kernel, rfl, by decide +kernel, by decide +kernel⟩
def sp_law_reel (K : PySem.W.Frag) : Sp := fun vs H Q _ => ∃ (a : Addr) (ns : List Int), vs = [.ref a] ∧ SqL K H a (ns.map V.int) ∧ ∀ H' p, Same H H' → H p = none → Reel H' p → Q (.ref p) H'
theorem ok_law_reel (D : Df K mg "_law_reel" s_law_reel) (T : Tx mg) : Has P w K mg base 1 "_law_reel" ["script"] (sp_law_reel K) := by
  refine has_of D sc_law_reel (fun _ _ _ _ _ _ us hl => match us, hl with | [_], _ => rfl) (fun vs H Q E h => ?_) (fun f cdv A outer s₀ H vs Q E hr h => ?_)
  · obtain ⟨a, rs, rfl, _⟩ := h
    rfl
  · obtain ⟨a, ns, rfl, hS, q⟩ := h
    obtain ⟨ms, em, lm⟩ := cut63 ns
    refine ⟨_, (pss_cons (ps_set (i := 1) sc_law_reel.nd rfl (by first | exact Or.inl rfl | exact Or.inr rfl) (pe_op op_pow pe_int pe_int))
    (pss_cons (ps_for PassesOwn.never rfl (pi_list (pe_slice sl_list (pv 0) po_none (po_some pe_int))) (pg_name (i := 2) sc_law_reel.nd rfl (by first | exact Or.inl rfl | exact Or.inr rfl))
      (pss_one (ps_set (i := 1) sc_law_reel.nd rfl (by first | exact Or.inl rfl | exact Or.inr rfl) (pe_op op_mod (pe_op op_add (pe_op op_add (pe_op op_mulW (pv 1) (pv 1)) (pe_op op_mod (pv 2) pe_int)) pe_int) (pe_op op_sub (pe_op op_mul (pe_op op_pow pe_int pe_int) (pe_op op_pow pe_int pe_int)) pe_int)))))
    (pss_cons (ps_setLc (i := 3) (own := [("cell", 2)]) rfl sc_law_reel.nd rfl rfl (sw_true rfl rfl rfl (by decide +kernel)) (pi_list (pe_slice sl_list (pv 0) po_none (po_some pe_int))) (blkOk_by (N := ["script", "stir", "cell", "great"]) (sc := defScope s_law_reel) (by decide +kernel)) (fun _ _ _ _ _ => (pg_name (i := 2) sc_law_reel.nd rfl (by first | exact Or.inl rfl | exact Or.inr rfl))) (fun _ _ _ _ _ => pts_one (pt_cmpR op_ge (pv 2) (pe_op op_pow pe_int pe_int) (nomark _))) (fun _ _ _ _ _ => (pe_op op_sub (pv 2) (pe_op op_pow pe_int pe_int))))
    (pss_one (ps_ret (pe_lst (pa_cons (pv 3) (pa_cons (pe_op op_cat (pe_lc (own := [("cell", 2)]) rfl sc_law_reel.nd (pi_list (pe_slice sl_list (pv 0) po_none (po_some pe_int))) (blkOk_by (N := ["script", "stir", "cell", "great"]) (sc := defScope s_law_reel) (by decide +kernel)) (fun _ _ _ _ _ => (pg_name (i := 2) sc_law_reel.nd rfl (by first | exact Or.inl rfl | exact Or.inr rfl))) (fun _ _ _ _ _ => pts_nil) (fun _ _ _ _ _ => (pe_op op_mod (pv 2) pe_int))) (pe_lst (pa_cons pe_int pa_nil))) (pa_cons pe_int (pa_cons (pv 1) pa_nil)))))))))), ?_⟩
    refine ⟨_, _, rfl, rfl, ⟨by decide, by decide, by decide⟩, ?_⟩
    refine ⟨_, rfl, _, rfl, a, _, rfl, hS, fun c nc => ?_⟩
    rw [em]
    have sc : Same H (upd H c (.lst (ms.map V.int))) := same_upd nc
    refine ⟨c, rfl, ⟨_, .of upd_same⟩, for_list (K := K) (a := c) (xs := ms.map V.int) (fun i σ H' => ∃ s y2, σ = [some (.ref a), some (.int s), y2, none] ∧ H' = upd H c (.lst (ms.map V.int)) ∧ 0 ≤ s ∧ s < 170141183460469231731687303715884105727)
      ⟨_, none, rfl, rfl, by decide +kernel, by decide +kernel⟩ (fun i σ H' _ hP => ?_) (fun i x σ H4 ex hP => ?_) (fun σ H4 hP => ?_)⟩
    · obtain ⟨_, _, _, rfl, _⟩ := hP
      exact .of upd_same
    · obtain ⟨s, y2, rfl, rfl, s0, s1⟩ := hP
      obtain ⟨n, rfl⟩ := int_at ex
      refine ⟨_, rfl, _, rfl, _, _, rfl, rfl, wide_mul (a := 127) (b := 127) (by omega) (by omega) (by decide) (by decide) (by decide), _, rfl, _, _, rfl, rfl, (by show (0 : Int) < 1000000000000000003; decide), _, _, rfl, rfl, _, _, rfl, rfl, _, _, rfl, rfl, ⟨by decide, by decide, by decide⟩, _, _, rfl, rfl, ⟨by decide, by decide, by decide⟩, _, _, rfl, rfl, .inr ⟨by decide +kernel, by decide +kernel⟩, _, _, rfl, rfl, _, _, rfl, rfl, ?_, ?_⟩
      · rw [p127]
        show (0 : Int) < 170141183460469231731687303715884105727
        decide
      rw [p127]
      exact ⟨_, _, rfl, rfl, Int.emod_nonneg _ (by decide), Int.emod_lt_of_pos _ (by decide)⟩
    · obtain ⟨s, y2, rfl, rfl, s0, s1⟩ := hP
      generalize upd H c (.lst (ms.map V.int)) = H1 at *
      refine ⟨_, rfl, _, rfl, a, _, rfl, SqL.sameR hS sc, fun c2 nc2 => ?_⟩
      rw [em]
      have sc2 : Same H1 (upd H1 c2 (.lst (ms.map V.int))) := same_upd nc2
      refine ⟨c2, rfl, ⟨_, .of upd_same⟩, fun L nL => lc_list (K := K) (a := c2) (xs := ms.map V.int) (fun i H' => Same (upd H1 c2 (.lst (ms.map V.int))) H' ∧ ∃ gs : List Int, H' L = some (.lst (gs.map V.int)) ∧ gs.length ≤ i ∧ ∀ x ∈ gs, 0 ≤ x)
        ⟨same_upd nL, [], upd_same, Nat.le_refl _, fun x h => by cases h⟩ (fun i H' _ p => .of (p.1 _ _ upd_same)) (fun i x H5 ex hP => ?_) (fun H5 hP => ?_)⟩
      · obtain ⟨s5, gs, hL, lg, g0⟩ := hP
        have hi : i < ms.length := by
          have := (List.getElem?_eq_some_iff.mp ex).1
          rw [List.length_map] at this
          exact this
        obtain ⟨n, rfl⟩ := int_at ex
        refine ⟨rfl, _, rfl, _, _, rfl, rfl, ⟨by decide, by decide, by decide⟩, _, _, rfl, rfl, _, rfl, ite2 (fun e => ?_) (fun e => ?_)⟩
        · have e : (10 : Int) ^ ((18 : Int).toNat) ≤ n := of_decide_eq_true e
          refine ⟨_, rfl, _, _, rfl, rfl, ⟨by decide, by decide, by decide⟩, _, _, rfl, rfl, _, hL, ?_, same_grow nL s5, gs ++ [n - (10 : Int) ^ ((18 : Int).toNat)], ?_, ?_, ?_⟩
          · rw [List.length_map]
            exact small (by omega)
          · rw [upd_same, List.map_append]
            rfl
          · rw [List.length_append]
            show gs.length + 1 ≤ i + 1
            omega
          · intro x hx
            rcases List.mem_append.mp hx with h | h
            · exact g0 x h
            · rw [List.mem_singleton.mp h]
              omega
        · exact ⟨s5, gs, hL, by omega, g0⟩
      · obtain ⟨s5, gs, hL, lg, g0⟩ := hP
        rw [List.length_map] at lg
        refine ⟨_, rfl, ?_⟩
        have sB : Same H1 H5 := sc2.trans s5
        refine ⟨_, rfl, _, rfl, a, _, rfl, SqL.sameR (SqL.sameR hS sc) sB, fun c3 nc3 => ?_⟩
        rw [em]
        have sc3 : Same H5 (upd H5 c3 (.lst (ms.map V.int))) := same_upd nc3
        refine ⟨c3, rfl, ⟨_, .of upd_same⟩, fun M nM => lc_list (K := K) (a := c3) (xs := ms.map V.int) (fun i H' => Same (upd H5 c3 (.lst (ms.map V.int))) H' ∧ ∃ cs : List Int, H' M = some (.lst (cs.map V.int)) ∧ cs.length = i)
          ⟨same_upd nM, [], upd_same, rfl⟩ (fun i H' _ p => .of (p.1 _ _ upd_same)) (fun i x H6 ex hP => ?_) (fun H6 hP => ?_)⟩
        · obtain ⟨s6, cs, hM, lc⟩ := hP
          have hi : i < ms.length := by
            have := (List.getElem?_eq_some_iff.mp ex).1
            rw [List.length_map] at this
            exact this
          obtain ⟨n, rfl⟩ := int_at ex
          refine ⟨rfl, yesT ⟨_, rfl, _, _, rfl, rfl, (by show (0 : Int) < 1000003; decide), _, hM, ?_, same_grow nM s6, cs ++ [n % 1000003], ?_, ?_⟩⟩
          · rw [List.length_map]
            exact small (by omega)
          · rw [upd_same, List.map_append]
            rfl
          · rw [List.length_append, lc]
            rfl
        · obtain ⟨s6, cs, hM, lc⟩ := hP
          rw [List.length_map] at lc
          refine ⟨(by show 1 ≤ sizeLine; decide), fun o no => ?_⟩
          have s7 := same_upd (o := .lst [.int 57]) no
          refine ⟨M, o, _, _, rfl, rfl, s7 _ _ hM, upd_same, ?_, fun r nr => ?_⟩
          · rw [List.length_map]
            show cs.length + 1 ≤ sizeLine
            exact Nat.le_of_lt (small (by omega))
          have s8 := same_upd (o := .lst (cs.map V.int ++ [.int 57])) nr
          refine ⟨_, rfl, (by show 4 ≤ sizeLine; decide), fun p np => ?_⟩
          have s9 := same_upd (o := .lst [.ref L, .ref r, .int 0, .int s]) np
          have sC := sc3.trans (s6.trans (s7.trans s8))
          have sT : Same H _ := sc.trans (sB.trans sC)
          refine q _ p (sT.trans s9) (sT.free np) ⟨L, r, gs, cs ++ [57], 0, s, upd_same, s9 _ _ (sC _ _ hL), ?_, by omega, g0, ?_, ?_, Int.le_refl _, s0, s1⟩
          · rw [s9 _ _ upd_same, List.map_append]
            rfl
          · rw [List.length_append]
            exact Nat.succ_pos _
          · rw [List.length_append]
            show cs.length + 1 ≤ 64
            omega
/-! _law_names: slots 0:reel 1:many 2:pool 3:turn -/
abbrev s_law_names : Stmt := topS 33
theorem sc_law_names : FnScope ["reel", "many", "pool", "turn"] ["reel", "many"] (defScope s_law_names) := ⟨rfl, rfl, rfl, by decide +kernel, rfl, by decide +kernel, by decide +kernel⟩
def thirteen : List Str := ["a", "b", "c", "ab", "zz", "few", "parity", "m", "majority", "q", "unknown", "k", "waits"]
theorem thirteen_nd : thirteen.Nodup := by decide +kernel
theorem thirteen_no : ("other" : Str) ∉ thirteen := by decide +kernel
theorem thirteen_ok : ∀ s ∈ thirteen, KindOk s := by decide +kernel
def sp_law_names : Sp := fun vs H Q _ => ∃ (p : Addr) (m : Int), vs = [.ref p, .int m] ∧ Reel H p ∧ 0 ≤ m ∧ m ≤ 13 ∧ ∀ (H' : Hp) (l : Addr) (ks : List Str), RB p H H' → Reel H' p → H l = none → H' l = some (.lst (ks.map V.str)) → Off H' p l → ((ks.length : Nat) : Int) = m → (∀ s ∈ ks, KindOk s) → ks.Nodup ∧ sortedS ks = true ∧ ("other" : Str) ∉ ks → Q (.ref l) H'
theorem ok_law_names (D : Df K mg "_law_names" s_law_names) (T : Tx mg) (G_law_draw : Has P w K mg base 1 "_law_draw" ["reel", "many"] sp_law_draw) : Has P w K mg base 2 "_law_names" ["reel", "many"] sp_law_names := by
  refine has_of D sc_law_names (fun _ _ _ _ _ _ us hl => match us, hl with | [_, _], _ => rfl) (fun vs H Q E h => ?_) (fun f cdv A outer s₀ H vs Q E hr h => ?_)
  · obtain ⟨_, _, rfl, _⟩ := h
    rfl
  · obtain ⟨p, m, rfl, z, m1, m2, q⟩ := h
    refine ⟨_, (pss_cons (ps_set (i := 2) sc_law_names.nd rfl (by first | exact Or.inl rfl | exact Or.inr rfl) (pe_lst (pa_cons pe_str (pa_cons pe_str (pa_cons pe_str (pa_cons pe_str (pa_cons pe_str (pa_cons pe_str (pa_cons pe_str (pa_cons pe_str (pa_cons pe_str (pa_cons pe_str (pa_cons pe_str (pa_cons pe_str (pa_cons pe_str pa_nil)))))))))))))))
    (pss_one (ps_ret (pe_callB cr_sortedS (by rfl) T.n_sorted (by decide +kernel) (pa_cons (pe_lc (own := [("turn", 3)]) rfl sc_law_names.nd (pi_range1 (by rfl) T.n_range (pa_cons (pv 1) pa_nil)) (blkOk_by (N := ["reel", "many", "pool", "turn"]) (sc := defScope s_law_names) (by decide +kernel)) (fun _ _ _ _ _ => (pg_name (i := 3) sc_law_names.nd rfl (by first | exact Or.inl rfl | exact Or.inr rfl))) (fun _ _ _ _ _ => pts_nil) (fun _ _ _ _ _ => (pe_bmK (K := K) rfl (pe_bm PySem.F.plainAttrs_list PySem.F.slot_list_pop PySem.F.type_list_pop mt_popAt (pv 2) (pa_cons (pe_callH G_law_draw (hr.mono (by omega)) (by rfl) (pa_cons (pv 0) (pa_cons (pe_callB (call_len_seqK (K := K) rfl) (by rfl) T.n_len (by decide +kernel) (pa_cons (pv 2) pa_nil)) pa_nil))) pa_nil))))) pa_nil))))), ?_⟩
    refine ⟨(by show 13 ≤ sizeLine; decide), fun pl npl => ?_⟩
    have n1 := z.ne npl
    have opl : Off (upd H pl (.lst (thirteen.map V.str))) p pl := (z.off npl).upd n1
    have z1 : Reel (upd H pl (.lst (thirteen.map V.str))) p := z.same (same_upd npl)
    refine ⟨_, rfl, m, rfl, by omega, by omega, fun L nL => ?_⟩
    have nLp : L ≠ pl := fun e => by rw [e, upd_same] at nL; cases nL
    have nLH : H L = none := (same_upd npl).free nL
    have nLs := z1.ne nL
    refine lc_range (lo := 0) (n := m.toNat) (fun i H' => ∃ ps ks : List Str, RB p H H' ∧ Reel H' p ∧ Off H' p pl ∧ Off H' p L ∧ H' pl = some (.lst (ps.map V.str)) ∧ ps.length + i = 13 ∧ (∀ s ∈ ps, KindOk s) ∧ H' L = some (.lst (ks.map V.str)) ∧ ks.length = i ∧ (∀ s ∈ ks, KindOk s) ∧ (ps ++ ks).Perm thirteen)
      ⟨thirteen, [], (RB.of (same_upd npl)).trans (RB.of (same_upd nL)), z1.same (same_upd nL), opl.same (same_upd nL), (z1.off nL).upd nLs, by rw [upd_ne nLp.symm, upd_same]; rfl, rfl, thirteen_ok, upd_same, rfl, (fun s h => by cases h), by rw [List.append_nil]⟩ (fun i H3 hi hP => ?_) (fun H3 hP => ?_)
    · obtain ⟨ps, ks, b3, z3, o3, o3L, hpl, lp, okp, hL, lk, okk, pm0⟩ := hP
      refine ⟨rfl, yesT ⟨_, rfl, .inl ⟨rfl, _, SqL.of hpl⟩, _, rfl, _, rfl, pl, _, rfl, .inl (.of hpl), p, _, rfl, z3, ?_, ?_, fun H4 r4 b4 z4 r40 r41 => ?_⟩⟩
      · rw [List.length_map]
        omega
      · rw [List.length_map]
        exact wide8 (by omega) (by omega)
      · rw [List.length_map] at r41
        have lt : r4.toNat < ps.length := by omega
        have h4 : H4 pl = some (.lst (ps.map V.str)) := b4.but _ _ n1 hpl
        have hL4 : H4 L = some (.lst (ks.map V.str)) := b4.but _ _ nLs hL
        have o4 := b4.off _ _ hpl o3
        have o4L := b4.off _ _ hL o3L
        have ek : (ps.map V.str)[r4.toNat]? = some (.str ps[r4.toNat]) := by
          rw [List.getElem?_map, List.getElem?_eq_getElem lt]
          rfl
        have ix : seqIndex? r4 (ps.map V.str).length = some r4.toNat := by
          unfold seqIndex?
          rw [List.length_map]
          have e1 : ¬ r4 < 0 := by omega
          simp only [e1, if_false]
          rw [if_pos]
          simp
          omega
        refine ⟨pl, _, r4, r4.toNat, _, rfl, rfl, h4, by omega, by omega, ix, ek, ks.map V.str, ?_, ?_, ps.eraseIdx r4.toNat, ks ++ [ps[r4.toNat]], ?_, ?_, ?_, ?_, ?_, ?_, ?_, ?_, ?_, ?_, ?_⟩
        · rw [upd_ne nLp]
          exact hL4
        · rw [List.length_map]
          exact small (by omega)
        · exact ((b3.trans b4).grow npl o4).grow nLH (o4L.upd n1)
        · exact (z4.upd o4).upd (o4L.upd n1)
        · exact (o4.upd n1).upd nLs
        · exact (o4L.upd n1).upd nLs
        · rw [upd_ne nLp.symm, upd_same, erase_map]
        · rw [List.length_eraseIdx_of_lt lt]
          omega
        · intro s hs
          exact okp s (List.mem_of_mem_eraseIdx hs)
        · rw [upd_same, List.map_append]
          rfl
        · rw [List.length_append, lk]
          rfl
        · intro s hs
          rcases List.mem_append.mp hs with h | h
          · exact okk s h
          · rw [List.mem_singleton.mp h]
            exact okp _ (List.getElem_mem lt)
        · refine List.Perm.trans ?_ pm0
          have h1 := erase_permR ps r4.toNat lt
          refine List.Perm.trans ?_ (h1.append_right ks)
          rw [← List.append_assoc]
          exact List.perm_append_singleton ..
    · obtain ⟨ps, ks, b3, z3, o3, o3L, hpl, lp, okp, hL, lk, okk, pm0⟩ := hP
      refine ⟨L, ks, rfl, .of hL, by omega, fun ks' l pm so nl => ?_⟩
      have nlp := z3.ne nl
      exact q _ l ks' (b3.trans (RB.of (same_upd nl))) (z3.same (same_upd nl)) (b3.free z3 nl) upd_same ((z3.off nl).upd nlp) (by rw [pm.length_eq]; omega) (fun s hs => okk s (pm.mem_iff.mp hs)) ⟨pm.nodup_iff.mpr (List.nodup_append.mp (pm0.nodup_iff.mpr thirteen_nd)).2.1, so, fun z => thirteen_no (pm0.mem_iff.mp (List.mem_append.mpr (.inr (pm.mem_iff.mp z))))⟩
/-! _law_state: slots 0:reel 1:names 2:most 3:count -/
abbrev s_law_state : Stmt := topS 35
theorem sc_law_state : FnScope ["reel", "names", "most", "count"] ["reel", "names", "most"] (defScope s_law_state) := ⟨rfl, rfl, rfl, by decide +kernel, rfl, by decide +kernel, by decide +kernel⟩
def sp_law_state : Sp := fun vs H Q _ => ∃ (p l : Addr) (ks : List Str) (m : Int), vs = [.ref p, .ref l, .int m] ∧ Reel H p ∧ H l = some (.lst (ks.map V.str)) ∧ 0 < ks.length ∧ ks.length ≤ 1000 ∧ (∀ s ∈ ks, KindOk s) ∧ 0 ≤ m ∧ m.natAbs < 2 ^ 7999 ∧ ∀ H' v st, RB p H H' → Reel H' p → StV H' v st → StOk st → (∀ r, st = some r → r.2 ≤ m) → Q v H'
theorem ok_law_state (D : Df K mg "_law_state" s_law_state) (T : Tx mg) (G_law_draw : Has P w K mg base 1 "_law_draw" ["reel", "many"] sp_law_draw) : Has P w K mg base 2 "_law_state" ["reel", "names", "most"] sp_law_state := by
  refine has_of D sc_law_state (fun _ _ _ _ _ _ us hl => match us, hl with | [_, _, _], _ => rfl) (fun vs H Q E h => ?_) (fun f cdv A outer s₀ H vs Q E hr h => ?_)
  · obtain ⟨_, _, _, _, rfl, _⟩ := h
    rfl
  · obtain ⟨p, l, ks, m, rfl, z, hl, k1, k2, okk, m0, m2, q⟩ := h
    have mw : (m + 1).natAbs < 2 ^ 8000 := by
      rw [show (8000 : Nat) = 7999 + 1 from rfl, Nat.pow_succ]
      omega
    refine ⟨_, (pss_cons (ps_set (i := 3) sc_law_state.nd rfl (by first | exact Or.inl rfl | exact Or.inr rfl) (pe_callH G_law_draw (hr.mono (by omega)) (by rfl) (pa_cons (pv 0) (pa_cons (pe_op op_add (pv 2) pe_int) pa_nil))))
    (pss_one (ps_ret (pe_ifExp (pt_cmpR op_gt (pv 3) pe_int (nomark _)) (pe_tup (pa_cons (pe_ix ix_list (pv 1) (pe_callH G_law_draw (hr.mono (by omega)) (by rfl) (pa_cons (pv 0) (pa_cons (pe_callB call_len_seq (by rfl) T.n_len (by decide +kernel) (pa_cons (pv 1) pa_nil)) pa_nil))) (fun _ _ => rfl)) (pa_cons (pv 3) pa_nil))) pe_non)))), ?_⟩
    refine ⟨_, rfl, _, rfl, _, _, rfl, rfl, p, _, rfl, z, (by show 1 ≤ m + 1; omega), mw, fun H1 r b1 z1 r0 r1 => ?_⟩
    have r1 : r < m + 1 := r1
    have hl1 := b1.strs z hl
    refine ⟨_, rfl, _, _, rfl, rfl, _, rfl, ite2 (fun e => ?_) (fun e => ?_)⟩
    · have e : 0 < r := of_decide_eq_true e
      refine ⟨_, rfl, _, rfl, _, rfl, l, _, rfl, .inl (.of hl1), p, _, rfl, z1, ?_, ?_, fun H2 r2 b2 z2 r20 r21 => ?_⟩
      · rw [List.length_map]
        omega
      · rw [List.length_map]
        exact wide8 (by omega) (by omega)
      rw [List.length_map] at r21
      have lt : r2.toNat < ks.length := by omega
      have ek : (ks.map V.str)[r2.toNat]? = some (.str ks[r2.toNat]) := by
        rw [List.getElem?_map, List.getElem?_eq_getElem lt]
        rfl
      have kk : KindOk ks[r2.toNat] := okk _ (List.getElem_mem lt)
      generalize ks[r2.toNat] = kd at ek kk
      refine ⟨l, _, r2, _, rfl, rfl, .of (b2.strs z1 hl1), atI_ofR r20 ek, _, rfl, (by show 2 ≤ sizeLine; decide), fun t nt => ?_⟩
      refine q _ _ (some (kd, r)) ((b1.trans b2).trans (RB.of (same_upd nt))) (z2.same (same_upd nt)) ⟨t, rfl, upd_same⟩ (fun x h => ?_) (fun x h => ?_)
      · cases h
        exact ⟨kk, by show 1 ≤ r; omega⟩
      · cases h
        show r ≤ m
        omega
    · exact q _ _ none b1 z1 rfl (fun x h => by cases h) (fun x h => by cases h)
/-! _law_step: slots 0:state 1:kind 2:count 3:left -/
abbrev s_law_step : Stmt := topS 37
theorem sc_law_step : FnScope ["state", "kind", "count", "left"] ["state", "kind", "count"] (defScope s_law_step) := ⟨rfl, rfl, rfl, by decide +kernel, rfl, by decide +kernel, by decide +kernel⟩
def sp_law_step : Sp := fun vs H Q _ => ∃ (v : V) (st : Option Run) (k : Str) (c : Int), vs = [v, .str k, .int c] ∧ StV H v st ∧ 1 ≤ c ∧ ∀ H' v', Same H H' → StV H' v' (stepR st k c) → Q v' H'
theorem ok_law_step (D : Df K mg "_law_step" s_law_step) : Has P w K mg base 1 "_law_step" ["state", "kind", "count"] sp_law_step := by
  refine has_of D sc_law_step (fun _ _ _ _ _ _ us hl => match us, hl with | [_, _, _], _ => rfl) (fun vs H Q E h => ?_) (fun f cdv A outer s₀ H vs Q E hr h => ?_)
  · obtain ⟨_, _, _, _, rfl, _⟩ := h
    rfl
  · obtain ⟨v, st, k, c, rfl, hv, c1, q⟩ := h
    refine ⟨_, (pss_cons (ps_if (PW.pt (pw_or (pt_cmpR op_isN (pv 0) pe_non (nomark _)) (pw_or1 (pt_cmpR op_eq (pe_ix ix_tup (pv 0) pe_int (fun _ _ => rfl)) (pv 1) (nomark _))))) (pss_one (ps_ret (pe_tup (pa_cons (pv 1) (pa_cons (pe_op op_add (pv 2) (pe_ifExp (pt_cmpR op_isN (pv 0) pe_non (nomark _)) pe_int (pe_ix ix_tup (pv 0) pe_int (fun _ _ => rfl)))) pa_nil))))) pss_nil)
    (pss_cons (ps_set (i := 3) sc_law_step.nd rfl (by first | exact Or.inl rfl | exact Or.inr rfl) (pe_op op_sub (pe_ix ix_tup (pv 0) pe_int (fun _ _ => rfl)) (pv 2)))
    (pss_cons (ps_if (pt_cmpR op_eq (pv 3) pe_int (nomark _)) (pss_one (ps_ret pe_non)) pss_nil)
    (pss_one (ps_ret (pe_ifExp (pt_cmpR op_gt (pv 3) pe_int (nomark _)) (pe_tup (pa_cons (pe_ix ix_tup (pv 0) pe_int (fun _ _ => rfl)) (pa_cons (pv 3) pa_nil))) (pe_tup (pa_cons (pv 1) (pa_cons (pe_op op_sub pe_int (pv 3)) pa_nil))))))))), ?_⟩
    cases st with
    | none =>
      obtain rfl := hv
      refine ⟨_, rfl, rfl, _, rfl, iteP rfl (iteT ?_)⟩
      refine ⟨_, rfl, _, rfl, _, rfl, rfl, _, rfl, iteP rfl ⟨_, _, rfl, rfl, (by show 2 ≤ sizeLine; decide), fun t nt => q _ _ (same_upd nt) ⟨t, rfl, ?_⟩⟩⟩
      rw [upd_same]
      show some (HO.tup [V.str k, .int (c + 0)]) = some (.tup [.str k, .int c])
      rw [Int.add_zero]
    | some r =>
      obtain ⟨t, rfl, ht⟩ := hv
      refine ⟨_, rfl, rfl, _, rfl, iteN rfl ⟨_, rfl, t, _, 0, _, rfl, rfl, .of ht, at0, _, rfl, rfl, _, rfl, ite2 (fun e => ?_) (fun e => ?_)⟩⟩
      · have e : r.1 = k := V.str.inj (of_decide_eq_true e)
        refine ⟨_, rfl, _, rfl, _, rfl, rfl, _, rfl, iteN rfl ⟨_, rfl, t, _, 1, _, rfl, rfl, .of ht, at1, _, _, rfl, rfl, (by show 2 ≤ sizeLine; decide), fun u nu => q _ _ (same_upd nu) ?_⟩⟩
        rw [show stepR (some r) k c = some (k, r.2 + c) from if_pos e, Int.add_comm]
        exact ⟨u, rfl, upd_same⟩
      · have e : r.1 ≠ k := fun z => e (decide_eq_true (by show V.str r.1 = V.str k; rw [z]))
        have es : stepR (some r) k c = if 0 < r.2 - c then some (r.1, r.2 - c) else if r.2 - c = 0 then none else some (k, -(r.2 - c)) := if_neg e
        refine ⟨_, rfl, t, _, 1, _, rfl, rfl, .of ht, at1, _, rfl, _, _, rfl, rfl, ?_⟩
        by_cases e0 : r.2 - c = 0
        · refine ⟨_, rfl, rfl, _, rfl, iteP (decide_eq_true (by show V.int (r.2 - c) = V.int 0; rw [e0])) (q _ _ (Same.refl _) ?_)⟩
          rw [es, if_neg (by omega), if_pos e0]
          rfl
        · refine ⟨_, rfl, rfl, _, rfl, iteN (decide_eq_false fun z => e0 (V.int.inj z)) ?_⟩
          by_cases e1 : 0 < r.2 - c
          · refine ⟨_, rfl, _, _, rfl, rfl, _, rfl, iteP (decide_eq_true e1) ⟨_, rfl, t, _, 0, _, rfl, rfl, .of ht, at0, _, rfl, (by show 2 ≤ sizeLine; decide), fun u nu => q _ _ (same_upd nu) ?_⟩⟩
            rw [es, if_pos e1]
            exact ⟨u, rfl, upd_same⟩
          · refine ⟨_, rfl, _, _, rfl, rfl, _, rfl, iteN (decide_eq_false e1) ⟨_, rfl, _, rfl, _, _, rfl, rfl, (by show 2 ≤ sizeLine; decide), fun u nu => q _ _ (same_upd nu) ?_⟩⟩
            rw [es, if_neg e1, if_neg e0, show -(r.2 - c) = 0 - (r.2 - c) by omega]
            exact ⟨u, rfl, upd_same⟩
end
end UP

set_option Elab.async false
set_option linter.all false
set_option maxRecDepth 100000
set_option maxHeartbeats 4000000
namespace UP
open PySem PySem.Spec PyProof.Rows L2
def sp_noneR : Sp := fun _ _ _ _ => False
theorem simR_run {H : Hp} {p : Addr} {v : V} {r : Run} {n : Nat} (z : Reel H p) (h : RunV H v r) : Sim (· ≠ p) H (n + 1) v (dP r) := by
  obtain ⟨t, rfl, h⟩ := h
  obtain ⟨_, _, _, _, _, _, hs, _⟩ := z
  exact .inr ⟨t, _, _, rfl, ne_of h hs (by intro q; cases q), .inr h, rfl, sim_pair r, Nat.le_of_ble_eq_true rfl⟩
theorem simR_st {H : Hp} {p : Addr} {v : V} {st : Option Run} (z : Reel H p) (h : StV H v st) : Sim (· ≠ p) H 2 v (dSt st) := by
  cases st with
  | none =>
    cases h
    exact .inl (.inl ⟨rfl, rfl⟩)
  | some r => exact simR_run z h
section
variable {P : Program} {w : World} {K : PySem.W.Frag} {mg : Str → Option Value} {base : Heap}
/-! _law_dressed: slots 0:reel 1:value 2:parts 3:part -/
abbrev s_law_dressed : Stmt := topS 40
theorem sc_law_dressed : FnScope ["reel", "value", "parts", "part"] ["reel", "value"] (defScope s_law_dressed) := ⟨rfl, rfl, rfl, by decide +kernel, rfl, by decide +kernel, by decide +kernel⟩
def sp_law_dressed (n : Nat) : Sp := fun vs H Q _ => ∃ (sp : Addr) (v : V) (d : PyData), vs = [.ref sp, v] ∧ Reel H sp ∧ Sim (· ≠ sp) H n v d ∧ ∀ H' v', RB sp H H' → Reel H' sp → Sim (fun a => H a = none) H' n v' d → Q v' H'
def sp_pred : Nat → Sp
  | 0 => sp_noneR
  | n + 1 => sp_law_dressed n
theorem none_law_dressed (D : Df K mg "_law_dressed" s_law_dressed) : Has P w K mg base 1 "_law_dressed" ["reel", "value"] sp_noneR :=
  has_of D sc_law_dressed (fun _ _ _ _ _ _ us hl => match us, hl with | [_, _], _ => rfl) (fun _ _ _ _ h => h.elim) (fun _ _ _ _ _ _ _ _ _ _ h => h.elim)
theorem step_law_dressed (D : Df K mg "_law_dressed" s_law_dressed) (T : Tx mg) (m : Nat) (G_law_draw : Has P w K mg base 1 "_law_draw" ["reel", "many"] sp_law_draw) (G_law_dressed : Has P w K mg base (m + 1) "_law_dressed" ["reel", "value"] (sp_pred m)) :
    Has P w K mg base (m + 2) "_law_dressed" ["reel", "value"] (sp_law_dressed m) := by
  refine has_of D sc_law_dressed (fun _ _ _ _ _ _ us hl => match us, hl with | [_, _], _ => rfl) (fun vs H Q E h => ?_) (fun f cdv A outer s H vs Q E hr h => ?_)
  · obtain ⟨_, _, _, rfl, _⟩ := h
    rfl
  · obtain ⟨sp, v, d, rfl, hz, hv, q⟩ := h
    refine ⟨_, (pss_cons (ps_if (pt_not (pt_val (pe_callB call_isiT (by rfl) T.n_isinstance (by decide +kernel) (pa_cons (pv 1) (pa_cons (pe_tup (pa_cons (pe_bltn (v := .ty "list") (by rfl) T.n_list (by decide +kernel) rfl) (pa_cons (pe_bltn (v := .ty "tuple") (by rfl) T.n_tuple (by decide +kernel) rfl) pa_nil))) pa_nil))))) (pss_one (ps_ret (pv 1))) pss_nil)
    (pss_cons (ps_setLc (i := 2) (own := [("part", 3)]) rfl sc_law_dressed.nd rfl rfl (sw_true rfl rfl rfl (by decide +kernel)) (pi_seqA 1) (blkOk_by (N := ["reel", "value", "parts", "part"]) (sc := defScope s_law_dressed) (by decide +kernel)) (fun _ _ _ _ _ => (pg_name (i := 3) sc_law_dressed.nd rfl (by first | exact Or.inl rfl | exact Or.inr rfl))) (fun _ _ _ _ _ => pts_nil) (fun _ _ _ _ _ => (pe_callH G_law_dressed (hr.mono (by omega)) (by rfl) (pa_cons (pv 0) (pa_cons (pv 3) pa_nil)))))
    (pss_one (ps_ret (pe_ifExp (pt_cmpR op_eq (pe_callH G_law_draw (hr.mono (by omega)) (by rfl) (pa_cons (pv 0) (pa_cons pe_int pa_nil))) pe_int (nomark _)) (pv 2) (pe_callTy call_tuple_of (by rfl) T.n_tuple (by decide +kernel) (pa_cons (pv 2) pa_nil))))))), ?_⟩
    have hs : Dsc v d ∨ ∃ n, m = n + 1 ∧ ∃ a xs ds, v = .ref a ∧ a ≠ sp ∧ Sq2 H a xs ∧ d = .list ds ∧ Paired (Sim (· ≠ sp) H n) xs ds ∧ ds.length ≤ 1000 := by
      cases m with
      | zero => exact .inl hv
      | succ n =>
        rcases hv with hv | hv
        · exact .inl hv
        · exact .inr ⟨n, rfl, hv⟩
    rcases hs with hs | ⟨n, rfl, a, xs, ds, rfl, na, hx, rfl, px, ld⟩
    · have fin : ∀ t, H t = none → Q v (upd H t (.tup [.ty "list", .ty "tuple"])) := fun t nt => q _ _ (RB.of (same_upd nt)) (hz.same (same_upd nt)) (Sim.dsc hs)
      rcases hs with ⟨rfl, _⟩ | ⟨b, rfl, _⟩ | ⟨i, rfl, _⟩ | ⟨z, rfl, _⟩
      · exact ⟨_, rfl, (by show 2 ≤ sizeLine; decide), fun tp nt => ⟨_, tp, _, _, _, false, rfl, upd_same, .cons (.ty "list") (.cons (.ty "tuple") .nil), .base .non, kit_no (by decide +kernel) (by decide +kernel), false, rfl, iteT ⟨_, rfl, fin tp nt⟩⟩⟩
      · exact ⟨_, rfl, (by show 2 ≤ sizeLine; decide), fun tp nt => ⟨_, tp, _, _, _, false, rfl, upd_same, .cons (.ty "list") (.cons (.ty "tuple") .nil), .base (.bl b), kit_no (by decide +kernel) (by decide +kernel), false, rfl, iteT ⟨_, rfl, fin tp nt⟩⟩⟩
      · exact ⟨_, rfl, (by show 2 ≤ sizeLine; decide), fun tp nt => ⟨_, tp, _, _, _, false, rfl, upd_same, .cons (.ty "list") (.cons (.ty "tuple") .nil), .base (.int i), kit_no (by decide +kernel) (by decide +kernel), false, rfl, iteT ⟨_, rfl, fin tp nt⟩⟩⟩
      · exact ⟨_, rfl, (by show 2 ≤ sizeLine; decide), fun tp nt => ⟨_, tp, _, _, _, false, rfl, upd_same, .cons (.ty "list") (.cons (.ty "tuple") .nil), .base (.str z), kit_no (by decide +kernel) (by decide +kernel), false, rfl, iteT ⟨_, rfl, fin tp nt⟩⟩⟩
    · have lx : xs.length = ds.length := Paired.len px
      refine ⟨_, rfl, (by show 2 ≤ sizeLine; decide), fun tp nt => ?_⟩
      have st : Same H (upd H tp (.tup [.ty "list", .ty "tuple"])) := same_upd nt
      have z1 := hz.same st
      have hx1 := hx.same st
      have px1 : Paired (Sim (· ≠ sp) (upd H tp (.tup [.ty "list", .ty "tuple"])) n) xs ds := Paired.imp (fun _ _ z => Sim.keep (fun _ h => h) (fun _ _ _ e => st _ _ e) z) px
      have fr1 : ∀ b, (upd H tp (.tup [.ty "list", .ty "tuple"])) b = none → H b = none := fun b e => st.free e
      have B1 : RB sp H (upd H tp (.tup [.ty "list", .ty "tuple"])) := RB.of st
      have tpT : (upd H tp (.tup [.ty "list", .ty "tuple"])) tp = some (.tup [.ty "list", .ty "tuple"]) := upd_same
      clear px
      generalize (upd H tp (.tup [.ty "list", .ty "tuple"])) = H1 at z1 hx1 px1 fr1 B1 tpT
      have isi : ∃ c, TyX K H1 (.ref a) (.type c) ∧ PySem.W.kitAny K (.type c) [.type "list", .type "tuple"] = some true := hx1.elim (fun z => ⟨"list", .base (.lst z), kit_lst⟩) (fun z => ⟨"tuple", .base (.tup z), kit_tup⟩)
      obtain ⟨c, ty, ki⟩ := isi
      refine ⟨_, tp, _, _, _, true, rfl, tpT, .cons (.ty "list") (.cons (.ty "tuple") .nil), ty, ki, true, rfl, iteF ?_⟩
      refine ⟨a, xs, rfl, hx1, fun J wk L nL => ?_⟩
      have nLs : L ≠ sp := z1.ne nL
      refine lc_wka wk (fun i H' => RB sp H1 H' ∧ Reel H' sp ∧ Off H' sp L ∧ ∃ ys, H' L = some (.lst ys) ∧ Paired (Sim (fun b => H1 b = none ∧ b ≠ L) H' n) ys (ds.take i)) (fun i H' p => ?_) ⟨RB.of (same_upd nL), z1.same (same_upd nL), (z1.off nL).upd nLs, [], upd_same, .nil⟩ (fun i x H2 ex p => ?_) (fun H2 p => ?_)
      · rcases hx1 with z | z
        · exact (p.1.but _ _ na z).trans z.symm
        · exact (p.1.but _ _ na z).trans z.symm
      · obtain ⟨b2, z2, o2, ys, hL, hy⟩ := p
        obtain ⟨d, ed, hd⟩ := Paired.at px1 ex
        have hi : i < xs.length := (List.getElem?_eq_some_iff.mp ex).1
        refine ⟨rfl, yesT ⟨_, rfl, _, rfl, sp, x, d, rfl, z2, Sim.keep (fun _ h => h) (fun b o nb e => b2.but b o nb e) hd, fun H3 v3 b3 z3 h3 => ⟨ys, b3.but _ _ nLs hL, ?_, ?_, ?_, ?_, _, upd_same, ?_⟩⟩⟩
        · have := Paired.len hy
          rw [List.length_take] at this
          exact small (by omega)
        · exact (b2.trans b3).grow nL (b3.off _ _ hL o2)
        · exact z3.upd (b3.off _ _ hL o2)
        · exact (b3.off _ _ hL o2).upd nLs
        · have old : ∀ b o, (H1 b = none ∧ b ≠ L) → H2 b = some o → upd H3 L (.lst (ys ++ [v3])) b = some o := by
            intro b o nb e
            rw [upd_ne nb.2]
            exact b3.but b o (z1.ne nb.1) e
          rw [take_snoc ed]
          refine Paired.app (Paired.imp (fun _ _ z => Sim.keep (fun _ h => h) old z) hy) (.cons (Sim.keep (fun b nb => ?_) (fun b o nb e => ?_) h3) .nil)
          · exact ⟨b2.free z2 nb, fun z => by rw [z, hL] at nb; cases nb⟩
          · rw [upd_ne (fun z => by rw [z, hL] at nb; cases nb)]
            exact e
      · obtain ⟨b2, z2, o2, ys, hL, hy⟩ := p
        rw [lx, List.take_length] at hy
        have ly := Paired.len hy
        refine ⟨_, rfl, sp, 2, rfl, z2, by decide, by decide, fun H3 r3 b3 z3 r30 r31 => ⟨rfl, _, rfl, ?_⟩⟩
        have hL3 := b3.but _ _ nLs hL
        have hy3 : Paired (Sim (fun b => H b = none) H3 n) ys ds := Paired.imp (fun _ _ z => Sim.keep (fun b nb => fr1 b nb.1) (fun b o nb e => b3.but b o (z1.ne nb.1) e) z) hy
        have B3 : RB sp H H3 := B1.trans (b2.trans b3)
        by_cases e : r3 = 0
        · subst e
          exact iteP (decide_eq_true rfl) ⟨_, rfl, q _ _ B3 z3 (.inr ⟨L, ys, ds, rfl, fr1 L nL, .inl hL3, rfl, hy3, ld⟩)⟩
        · refine iteN (decide_eq_false fun z => e (V.int.inj z)) ⟨_, rfl, L, ys, rfl, .inl ⟨.of hL3, fun p np => q _ _ (B3.trans (RB.of (same_upd np))) (z3.same (same_upd np)) (.inr ⟨p, ys, ds, rfl, B3.free z3 np, .inr upd_same, rfl, ?_, ld⟩)⟩⟩
          exact Paired.imp (fun _ _ z => Sim.keep (fun _ h => h) (fun _ _ _ e => same_upd np _ _ e) z) hy3
theorem ok_law_dressed (D : Df K mg "_law_dressed" s_law_dressed) (T : Tx mg) (G_law_draw : Has P w K mg base 1 "_law_draw" ["reel", "many"] sp_law_draw) : ∀ n, Has P w K mg base (n + 2) "_law_dressed" ["reel", "value"] (sp_law_dressed n)
  | 0 => step_law_dressed D T 0 G_law_draw (none_law_dressed D)
  | n + 1 => step_law_dressed D T (n + 1) G_law_draw (ok_law_dressed D T G_law_draw n)
end
end UP

set_option Elab.async false
set_option linter.all false
set_option maxRecDepth 100000
set_option maxHeartbeats 4000000
namespace UP
open PySem PySem.Spec PyProof.Rows L2
/-! ### distances -/
def kdV : Option Run → V
  | none => .non
  | some r => .str r.1
def distR (a b : Option Run) : Int := if kdV a = kdV b then (if numR a - numR b < 0 then -(numR a - numR b) else numR a - numR b) else numR a + numR b
theorem dist_ss (r s : Run) : distR (some r) (some s) = if r.1 = s.1 then (if r.2 - s.2 < 0 then -(r.2 - s.2) else r.2 - s.2) else r.2 + s.2 := by
  unfold distR
  by_cases e : r.1 = s.1
  · rw [if_pos e, if_pos (by show V.str r.1 = V.str s.1; rw [e])]
    rfl
  · rw [if_neg e, if_neg (show ¬ kdV (some r) = kdV (some s) from fun z => e (V.str.inj z))]
    rfl
theorem dist_nn : distR none none = 0 := rfl
theorem dist_ns (r : Run) : distR none (some r) = r.2 := by
  unfold distR
  rw [if_neg (by intro z; cases z)]
  show 0 + r.2 = r.2
  omega
theorem dist_sn (r : Run) : distR (some r) none = r.2 := by
  unfold distR
  rw [if_neg (by intro z; cases z)]
  show r.2 + 0 = r.2
  omega
theorem dist_comm (a b : Option Run) : distR a b = distR b a := by
  cases a with
  | none =>
    cases b with
    | none => rfl
    | some s => rw [dist_ns, dist_sn]
  | some r =>
    cases b with
    | none => rw [dist_ns, dist_sn]
    | some s =>
      rw [dist_ss, dist_ss]
      by_cases e : r.1 = s.1
      · rw [if_pos e, if_pos e.symm]
        split <;> split <;> omega
      · rw [if_neg e, if_neg fun z => e z.symm]
        omega
theorem dist_zero {a b : Option Run} (pa : PosO a) (pb : PosO b) : distR a b = 0 ↔ a = b := by
  cases a with
  | none =>
    cases b with
    | none => exact ⟨fun _ => rfl, fun _ => rfl⟩
    | some s =>
      have := pb s rfl
      rw [dist_ns]
      exact ⟨fun z => by omega, fun z => by cases z⟩
  | some r =>
    have h1 := pa r rfl
    cases b with
    | none =>
      rw [dist_sn]
      exact ⟨fun z => by omega, fun z => by cases z⟩
    | some s =>
      have h2 := pb s rfl
      rw [dist_ss]
      constructor
      · intro z
        by_cases e : r.1 = s.1
        · rw [if_pos e] at z
          have : r.2 = s.2 := by
            split at z <;> omega
          rw [show r = s from Prod.ext e this]
        · rw [if_neg e] at z
          omega
      · intro z
        cases z
        rw [if_pos rfl]
        split <;> omega
theorem dist_tri {a b c : Option Run} (pa : PosO a) (pb : PosO b) (pc : PosO c) : ¬ distR a c + distR c b < distR a b := by
  cases a with
  | none =>
    cases b with
    | none =>
      cases c with
      | none => rw [dist_nn]; omega
      | some t =>
        have := pc t rfl
        rw [dist_nn, dist_ns, dist_sn]
        omega
    | some s =>
      have h2 := pb s rfl
      cases c with
      | none => rw [dist_nn, dist_ns]; omega
      | some t =>
        have := pc t rfl
        rw [dist_ns, dist_ss, dist_ns]
        split
        · split <;> omega
        · omega
  | some r =>
    have h1 := pa r rfl
    cases b with
    | none =>
      cases c with
      | none => rw [dist_nn, dist_sn]; omega
      | some t =>
        have := pc t rfl
        rw [dist_sn, dist_sn, dist_ss]
        split
        · split <;> omega
        · omega
    | some s =>
      have h2 := pb s rfl
      cases c with
      | none =>
        rw [dist_sn, dist_ns, dist_ss]
        split
        · split <;> omega
        · omega
      | some t =>
        have h3 := pc t rfl
        rw [dist_ss, dist_ss, dist_ss]
        by_cases e1 : r.1 = t.1
        · by_cases e2 : t.1 = s.1
          · rw [if_pos e1, if_pos e2, if_pos (e1.trans e2)]
            split <;> split <;> split <;> omega
          · rw [if_pos e1, if_neg e2, if_neg (fun z => e2 (e1.symm.trans z))]
            split <;> omega
        · by_cases e2 : t.1 = s.1
          · rw [if_neg e1, if_pos e2, if_neg (show ¬ r.1 = s.1 from fun z => e1 (z.trans e2.symm))]
            split <;> omega
          · rw [if_neg e1, if_neg e2]
            split
            · split <;> omega
            · omega
/-- one arrival: the distance stays or falls by 2 -/
theorem dist_step {a b : Option Run} {k : Str} (pa : PosO a) (pb : PosO b) : distR (stepR a k 1) (stepR b k 1) = distR a b ∨ distR (stepR a k 1) (stepR b k 1) = distR a b - 2 := by
  have sn : stepR none k 1 = some (k, 1) := rfl
  have sp : ∀ r : Run, 1 ≤ r.2 → (r.1 = k ∧ stepR (some r) k 1 = some (k, r.2 + 1)) ∨ (r.1 ≠ k ∧ 2 ≤ r.2 ∧ stepR (some r) k 1 = some (r.1, r.2 - 1)) ∨ (r.1 ≠ k ∧ r.2 = 1 ∧ stepR (some r) k 1 = none) := by
    intro r h
    by_cases e : r.1 = k
    · exact .inl ⟨e, if_pos e⟩
    · have es : stepR (some r) k 1 = if 0 < r.2 - 1 then some (r.1, r.2 - 1) else if r.2 - 1 = 0 then none else some (k, -(r.2 - 1)) := if_neg e
      by_cases g : 2 ≤ r.2
      · rw [if_pos (by omega)] at es
        exact .inr (.inl ⟨e, g, es⟩)
      · rw [if_neg (by omega), if_pos (by omega)] at es
        exact .inr (.inr ⟨e, by omega, es⟩)
  cases a with
  | none =>
    cases b with
    | none =>
      rw [sn, dist_ss, if_pos rfl, dist_nn]
      left
      split <;> omega
    | some s =>
      have h2 := pb s rfl
      rcases sp s h2 with ⟨e, es⟩ | ⟨e, g, es⟩ | ⟨e, g, es⟩
      · rw [sn, es, dist_ss, dist_ns, if_pos rfl]
        left
        show (if 1 - (s.2 + 1) < 0 then -(1 - (s.2 + 1)) else 1 - (s.2 + 1)) = s.2
        split <;> omega
      · rw [sn, es, dist_ss, dist_ns, if_neg fun z => e z.symm]
        left
        show 1 + (s.2 - 1) = s.2
        omega
      · rw [sn, es, dist_sn, dist_ns]
        left
        show 1 = s.2
        omega
  | some r =>
    have h1 := pa r rfl
    cases b with
    | none =>
      rcases sp r h1 with ⟨e, es⟩ | ⟨e, g, es⟩ | ⟨e, g, es⟩
      · rw [sn, es, dist_ss, dist_sn, if_pos rfl]
        left
        show (if r.2 + 1 - 1 < 0 then -(r.2 + 1 - 1) else r.2 + 1 - 1) = r.2
        split <;> omega
      · rw [sn, es, dist_ss, dist_sn, if_neg e]
        left
        show r.2 - 1 + 1 = r.2
        omega
      · rw [sn, es, dist_ns, dist_sn]
        left
        show 1 = r.2
        omega
    | some s =>
      have h2 := pb s rfl
      rw [dist_ss r s]
      rcases sp r h1 with ⟨e, es⟩ | ⟨e, g, es⟩ | ⟨e, g, es⟩
      · rcases sp s h2 with ⟨f, fs⟩ | ⟨f, j, fs⟩ | ⟨f, j, fs⟩
        · rw [es, fs, dist_ss, if_pos rfl, if_pos (e.trans f.symm)]
          left
          show (if r.2 + 1 - (s.2 + 1) < 0 then -(r.2 + 1 - (s.2 + 1)) else r.2 + 1 - (s.2 + 1)) = _
          split <;> split <;> omega
        · rw [es, fs, dist_ss, if_neg (fun z => f z.symm), if_neg (fun z => f (z.symm.trans e))]
          left
          show r.2 + 1 + (s.2 - 1) = _
          omega
        · rw [es, fs, dist_sn, if_neg (fun z => f (z.symm.trans e))]
          left
          show r.2 + 1 = _
          omega
      · rcases sp s h2 with ⟨f, fs⟩ | ⟨f, j, fs⟩ | ⟨f, j, fs⟩
        · rw [es, fs, dist_ss, if_neg e, if_neg (fun z => e (z.trans f))]
          left
          show r.2 - 1 + (s.2 + 1) = _
          omega
        · rw [es, fs, dist_ss]
          show (if r.1 = s.1 then (if r.2 - 1 - (s.2 - 1) < 0 then -(r.2 - 1 - (s.2 - 1)) else r.2 - 1 - (s.2 - 1)) else r.2 - 1 + (s.2 - 1)) = _ ∨ (if r.1 = s.1 then (if r.2 - 1 - (s.2 - 1) < 0 then -(r.2 - 1 - (s.2 - 1)) else r.2 - 1 - (s.2 - 1)) else r.2 - 1 + (s.2 - 1)) = _
          by_cases u : r.1 = s.1
          · rw [if_pos u, if_pos u]
            left
            split <;> split <;> omega
          · rw [if_neg u, if_neg u]
            right
            omega
        · rw [es, fs, dist_sn]
          show r.2 - 1 = _ ∨ r.2 - 1 = _
          by_cases u : r.1 = s.1
          · rw [if_pos u]
            left
            split <;> omega
          · rw [if_neg u]
            right
            omega
      · rcases sp s h2 with ⟨f, fs⟩ | ⟨f, j, fs⟩ | ⟨f, j, fs⟩
        · rw [es, fs, dist_ns, if_neg (fun z => e (z.trans f))]
          left
          show s.2 + 1 = _
          omega
        · rw [es, fs, dist_ns]
          show s.2 - 1 = _ ∨ s.2 - 1 = _
          by_cases u : r.1 = s.1
          · rw [if_pos u]
            left
            split <;> omega
          · rw [if_neg u]
            right
            omega
        · rw [es, fs, dist_nn]
          by_cases u : r.1 = s.1
          · rw [if_pos u]
            left
            split <;> omega
          · rw [if_neg u]
            right
            omega
section
variable {P : Program} {w : World} {K : PySem.W.Frag} {mg : Str → Option Value} {base : Heap}
/-! kind_of: slots 0:state -/
abbrev s_kind_of : Stmt := topS 19
theorem sc_kind_of : FnScope ["state"] ["state"] (defScope s_kind_of) := ⟨rfl, rfl, rfl, by decide +kernel, rfl, by decide +kernel, by decide +kernel⟩
def sp_kind_of : Sp := fun vs H Q _ => ∃ (v : V) (st : Option Run), vs = [v] ∧ StV H v st ∧ Q (kdV st) H
theorem ok_kind_of (D : Df K mg "kind_of" s_kind_of) : Has P w K mg base 1 "kind_of" ["state"] sp_kind_of := by
  refine has_of D sc_kind_of (fun _ _ _ _ _ _ us hl => match us, hl with | [_], _ => rfl) (fun vs H Q E h => ?_) (fun f cdv A outer s₀ H vs Q E hr h => ?_)
  · obtain ⟨a, rs, rfl, _⟩ := h
    rfl
  · obtain ⟨v, st, rfl, hv, q⟩ := h
    refine ⟨_, (pss_one (ps_ret (pe_ifExp (pt_cmpR op_isN (pv 0) pe_non (nomark _)) pe_non (pe_ix ix_tup (pv 0) pe_int (fun _ _ => rfl))))), ?_⟩
    cases st with
    | none =>
      cases hv
      exact ⟨_, rfl, rfl, _, rfl, iteP rfl q⟩
    | some r =>
      obtain ⟨t, rfl, ht⟩ := hv
      exact ⟨_, rfl, rfl, _, rfl, iteN rfl ⟨_, rfl, t, _, 0, _, rfl, rfl, .of ht, at0, q⟩⟩
theorem scal_kd (a b : Option Run) : scal (kdV a) (kdV b) = true := by
  cases a <;> cases b <;> rfl
end
end UP

set_option Elab.async false
set_option linter.all false
set_option maxRecDepth 100000
set_option maxHeartbeats 4000000
namespace UP
open PySem PySem.Spec PyProof.Rows L2
theorem RB.rung {p : Addr} {H H' : Hp} {v : V} {r : Run} (b : RB p H H') (z : Reel H p) (h : RunG H v r) : RunG H' v r := by
  obtain ⟨t, e, h⟩ := h
  obtain ⟨_, _, _, _, _, _, hp, _⟩ := z
  refine ⟨t, e, h.elim (fun y => .inl (b.but _ _ (ne_of y hp (by intro q; cases q)) y)) (fun y => .inr (b.but _ _ (ne_of y hp (by intro q; cases q)) y))⟩
theorem RB.stg {p : Addr} {H H' : Hp} {v : V} {st : Option Run} (b : RB p H H') (z : Reel H p) (h : StG H v st) : StG H' v st := by
  cases st with
  | none => exact h
  | some r => exact b.rung z h
theorem stOk_step {a : Option Run} {k : Str} (h : StOk a) (kk : KindOk k) : StOk (stepR a k 1) := by
  intro r e
  have p := stepR_pos (k := k) (c := 1) (fun r e => (h r e).2) (by decide) r e
  refine ⟨?_, p⟩
  cases a with
  | none =>
    cases e
    exact kk
  | some s =>
    have hs := h s rfl
    by_cases e1 : s.1 = k
    · rw [show stepR (some s) k 1 = some (k, s.2 + 1) from if_pos e1] at e
      cases e
      exact kk
    · rw [show stepR (some s) k 1 = if 0 < s.2 - 1 then some (s.1, s.2 - 1) else if s.2 - 1 = 0 then none else some (k, -(s.2 - 1)) from if_neg e1] at e
      split at e
      · cases e
        exact hs.1
      · split at e
        · cases e
        · cases e
          exact kk
def dOt : Option Run → PyData
  | none => .none
  | some r => dRun r
theorem dp_o {K : PySem.W.Frag} {H : Hp} {v : V} {st : Option Run} (h : StV H v st) : Dp K H v (dOt st) := by
  cases st with
  | none =>
    cases h
    exact .non
  | some r => exact dp_run h
theorem shaped_o {st : Option Run} (h : StOk st) : SeqAt.shaped (dOt st) = true := by
  cases st with
  | none => decide
  | some r => exact shaped_run (h r rfl).1
theorem eqv_o (a b : Option Run) : PyData.eqv (dOt a) (dOt b) = decide (a = b) := by
  cases a with
  | none =>
    cases b with
    | none => simp [dOt, PyData.eqv]
    | some s => simp [dOt, dRun, PyData.eqv]
  | some r =>
    cases b with
    | none => simp [dOt, dRun, PyData.eqv]
    | some s =>
      obtain ⟨r1, r2⟩ := r
      obtain ⟨s1, s2⟩ := s
      simp [dOt, dRun, PyData.eqv, PyData.eqvAll]
      rw [Bool.eq_iff_iff]
      simp
theorem dps_stN {K : PySem.W.Frag} {H : Hp} {v : V} {st : Option Run} (h : StG H v st) (k : ∀ r, st = some r → KindOk r.1 ∧ r.2.natAbs < 10 ^ 60) : ∃ d, DpS K H v d ∧ Nice 404 1 d := by
  cases st with
  | none =>
    cases h
    exact ⟨.none, fun _ _ => .non, nice_none.mono (by decide) (by decide)⟩
  | some r => exact dps_run (K := K) h (k r rfl).1 (k r rfl).2
theorem nice_il {w : Nat} {l : List Int} (h : ∀ x ∈ l, x.natAbs < 10 ^ 60) (hw : 202 * l.length ≤ w) : Nice w 1 (.list (l.map PyData.int)) := by
  have := nice_list (w := 201) (n := 0) (ds := l.map PyData.int) fun d hd => by
    obtain ⟨x, hx, rfl⟩ := List.mem_map.mp hd
    exact nice_int (h x hx)
  exact this.mono (by rw [List.length_map]; omega) (Nat.le_refl _)
theorem dist_bd {a b : Option Run} (pa : PosO a) (pb : PosO b) {m : Int} (ha : ∀ r, a = some r → r.2 ≤ m) (hb : ∀ r, b = some r → r.2 ≤ m) (m0 : 0 ≤ m) : 0 ≤ distR a b ∧ distR a b ≤ 2 * m := by
  cases a with
  | none =>
    cases b with
    | none => rw [dist_nn]; omega
    | some s =>
      have := pb s rfl
      have := hb s rfl
      rw [dist_ns]; omega
  | some r =>
    have h1 := pa r rfl
    have h2 := ha r rfl
    cases b with
    | none => rw [dist_sn]; omega
    | some s =>
      have := pb s rfl
      have := hb s rfl
      rw [dist_ss]
      split
      · split <;> omega
      · omega
theorem p39 : (10 : Int) ^ ((39 : Int).toNat) = 1000000000000000000000000000000000000000 := by decide +kernel
end UP

set_option Elab.async false
set_option linter.all false
set_option maxRecDepth 100000
set_option maxHeartbeats 4000000
namespace UP
open PySem PySem.Spec PyProof.Rows L2
/-! ### meetings -/
def MW (a b : Option Run) (k : Str) (c : Int) : Prop := kdV a ≠ .str k ∧ kdV b ≠ .str k ∧ numR a = numR b ∧ numR b ≤ c
instance (a b : Option Run) (k : Str) (c : Int) : Decidable (MW a b k c) := by
  unfold MW
  infer_instance
theorem MW.comm {a b : Option Run} {k : Str} {c : Int} : MW a b k c ↔ MW b a k c := by
  unfold MW
  exact ⟨fun h => ⟨h.2.1, h.1, h.2.2.1.symm, by omega⟩, fun h => ⟨h.2.1, h.1, h.2.2.1.symm, by omega⟩⟩
theorem mw_nn {k : Str} {c : Int} : MW none none k c ↔ 0 ≤ c := ⟨fun h => h.2.2.2, fun h => ⟨by (intro z; cases z), by (intro z; cases z), rfl, h⟩⟩
theorem mw_ns {s : Run} {k : Str} {c : Int} : MW none (some s) k c ↔ s.1 ≠ k ∧ 0 = s.2 ∧ s.2 ≤ c := ⟨fun h => ⟨fun z => h.2.1 (by show V.str s.1 = V.str k; rw [z]), h.2.2.1, h.2.2.2⟩, fun h => ⟨by (intro z; cases z), fun z => h.1 (V.str.inj z), h.2.1, h.2.2⟩⟩
theorem mw_sn {s : Run} {k : Str} {c : Int} : MW (some s) none k c ↔ s.1 ≠ k ∧ s.2 = 0 ∧ 0 ≤ c := ⟨fun h => ⟨fun z => h.1 (by show V.str s.1 = V.str k; rw [z]), h.2.2.1, h.2.2.2⟩, fun h => ⟨fun z => h.1 (V.str.inj z), by (intro z; cases z), h.2.1, h.2.2⟩⟩
theorem mw_ss {r s : Run} {k : Str} {c : Int} : MW (some r) (some s) k c ↔ r.1 ≠ k ∧ s.1 ≠ k ∧ r.2 = s.2 ∧ s.2 ≤ c := ⟨fun h => ⟨fun z => h.1 (by show V.str r.1 = V.str k; rw [z]), fun z => h.2.1 (by show V.str s.1 = V.str k; rw [z]), h.2.2.1, h.2.2.2⟩, fun h => ⟨fun z => h.1 (V.str.inj z), fun z => h.2.1 (V.str.inj z), h.2.2⟩⟩
theorem step_cases {r : Run} {k : Str} {c : Int} : (r.1 = k ∧ stepR (some r) k c = some (k, r.2 + c)) ∨ (r.1 ≠ k ∧ c < r.2 ∧ stepR (some r) k c = some (r.1, r.2 - c)) ∨ (r.1 ≠ k ∧ r.2 = c ∧ stepR (some r) k c = none) ∨ (r.1 ≠ k ∧ r.2 < c ∧ stepR (some r) k c = some (k, c - r.2)) := by
  by_cases e : r.1 = k
  · exact .inl ⟨e, if_pos e⟩
  · have es : stepR (some r) k c = if 0 < r.2 - c then some (r.1, r.2 - c) else if r.2 - c = 0 then none else some (k, -(r.2 - c)) := if_neg e
    by_cases g : c < r.2
    · rw [if_pos (by omega)] at es
      exact .inr (.inl ⟨e, g, es⟩)
    · by_cases h : r.2 = c
      · rw [if_neg (by omega), if_pos (by omega)] at es
        exact .inr (.inr (.inl ⟨e, h, es⟩))
      · rw [if_neg (by omega), if_neg (by omega), show -(r.2 - c) = c - r.2 by omega] at es
        exact .inr (.inr (.inr ⟨e, by omega, es⟩))
theorem some_pair {a b : Str} {m n : Int} : (some (a, m) : Option Run) = some (b, n) ↔ a = b ∧ m = n := ⟨fun h => by cases h; exact ⟨rfl, rfl⟩, fun h => by rw [h.1, h.2]⟩
/-- within a run two different states become equal only together with the last of both -/
theorem meet_iff {a b : Option Run} {k : Str} {c : Int} (pa : PosO a) (pb : PosO b) (ne : a ≠ b) (c1 : 1 ≤ c) : stepR a k c = stepR b k c ↔ MW a b k c := by
  cases a with
  | none =>
    cases b with
    | none => exact absurd rfl ne
    | some s =>
      have h2 := pb s rfl
      rw [mw_ns, show stepR none k c = some (k, c) from rfl]
      rcases step_cases (r := s) (k := k) (c := c) with ⟨e, es⟩ | ⟨e, g, es⟩ | ⟨e, g, es⟩ | ⟨e, g, es⟩
      · rw [es, some_pair]
        exact ⟨fun z => (by omega), fun z => by omega⟩
      · rw [es, some_pair]
        exact ⟨fun z => absurd z.1.symm e, fun z => by omega⟩
      · rw [es]
        exact ⟨fun z => (by cases z), fun z => by omega⟩
      · rw [es, some_pair]
        exact ⟨fun z => (by omega), fun z => by omega⟩
  | some r =>
    have h1 := pa r rfl
    cases b with
    | none =>
      rw [mw_sn, show stepR none k c = some (k, c) from rfl]
      rcases step_cases (r := r) (k := k) (c := c) with ⟨e, es⟩ | ⟨e, g, es⟩ | ⟨e, g, es⟩ | ⟨e, g, es⟩
      · rw [es, some_pair]
        exact ⟨fun z => (by omega), fun z => by omega⟩
      · rw [es, some_pair]
        exact ⟨fun z => absurd z.1 e, fun z => by omega⟩
      · rw [es]
        exact ⟨fun z => (by cases z), fun z => by omega⟩
      · rw [es, some_pair]
        exact ⟨fun z => (by omega), fun z => by omega⟩
    | some s =>
      have h2 := pb s rfl
      have ne2 : ¬ (r.1 = s.1 ∧ r.2 = s.2) := fun z => ne (by rw [show r = s from Prod.ext z.1 z.2])
      rw [mw_ss]
      rcases step_cases (r := r) (k := k) (c := c) with ⟨e, es⟩ | ⟨e, g, es⟩ | ⟨e, g, es⟩ | ⟨e, g, es⟩
      · rcases step_cases (r := s) (k := k) (c := c) with ⟨f, fs⟩ | ⟨f, j, fs⟩ | ⟨f, j, fs⟩ | ⟨f, j, fs⟩
        · rw [es, fs, some_pair]
          exact ⟨fun z => absurd ⟨e.trans f.symm, by omega⟩ ne2, fun z => absurd e z.1⟩
        · rw [es, fs, some_pair]
          exact ⟨fun z => absurd z.1.symm f, fun z => absurd e z.1⟩
        · rw [es, fs]
          exact ⟨fun z => (by cases z), fun z => absurd e z.1⟩
        · rw [es, fs, some_pair]
          exact ⟨fun z => (by omega), fun z => absurd e z.1⟩
      · rcases step_cases (r := s) (k := k) (c := c) with ⟨f, fs⟩ | ⟨f, j, fs⟩ | ⟨f, j, fs⟩ | ⟨f, j, fs⟩
        · rw [es, fs, some_pair]
          exact ⟨fun z => absurd z.1 e, fun z => absurd f z.2.1⟩
        · rw [es, fs, some_pair]
          exact ⟨fun z => absurd ⟨z.1, by omega⟩ ne2, fun z => by omega⟩
        · rw [es, fs]
          exact ⟨fun z => (by cases z), fun z => by omega⟩
        · rw [es, fs, some_pair]
          exact ⟨fun z => absurd z.1 e, fun z => by omega⟩
      · rcases step_cases (r := s) (k := k) (c := c) with ⟨f, fs⟩ | ⟨f, j, fs⟩ | ⟨f, j, fs⟩ | ⟨f, j, fs⟩
        · rw [es, fs]
          exact ⟨fun z => (by cases z), fun z => absurd f z.2.1⟩
        · rw [es, fs]
          exact ⟨fun z => (by cases z), fun z => by omega⟩
        · rw [es, fs]
          exact ⟨fun _ => ⟨e, f, by omega, by omega⟩, fun _ => rfl⟩
        · rw [es, fs]
          exact ⟨fun z => (by cases z), fun z => by omega⟩
      · rcases step_cases (r := s) (k := k) (c := c) with ⟨f, fs⟩ | ⟨f, j, fs⟩ | ⟨f, j, fs⟩ | ⟨f, j, fs⟩
        · rw [es, fs, some_pair]
          exact ⟨fun z => (by omega), fun z => absurd f z.2.1⟩
        · rw [es, fs, some_pair]
          exact ⟨fun z => absurd z.1.symm f, fun z => by omega⟩
        · rw [es, fs]
          exact ⟨fun z => (by cases z), fun z => by omega⟩
        · rw [es, fs, some_pair]
          exact ⟨fun z => ⟨e, f, by omega, by omega⟩, fun z => ⟨rfl, by omega⟩⟩
/-- the moment, run by run; the states are different at the beginning -/
def mgR : List Run → Option Run → Option Run → Int → Option Int
  | [], _, _, _ => none
  | r :: t, a, b, s => if MW a b r.1 r.2 then some (s + numR a) else mgR t (stepR a r.1 r.2) (stepR b r.1 r.2) (s + r.2)
def mmR (rs : List Run) (a b : Option Run) : Option Int := if a = b then some 0 else mgR rs a b 0
theorem mg_comm : ∀ (rs : List Run) (a b : Option Run) (s : Int), mgR rs a b s = mgR rs b a s
  | [], _, _, _ => rfl
  | r :: t, a, b, s => by
    show (if MW a b r.1 r.2 then some (s + numR a) else mgR t (stepR a r.1 r.2) (stepR b r.1 r.2) (s + r.2)) = (if MW b a r.1 r.2 then some (s + numR b) else mgR t (stepR b r.1 r.2) (stepR a r.1 r.2) (s + r.2))
    by_cases h : MW a b r.1 r.2
    · rw [if_pos h, if_pos (MW.comm.mp h), h.2.2.1]
    · rw [if_neg h, if_neg fun z => h (MW.comm.mp z), mg_comm t]
theorem mm_comm (rs : List Run) (a b : Option Run) : mmR rs a b = mmR rs b a := by
  unfold mmR
  by_cases h : a = b
  · rw [if_pos h, if_pos h.symm]
  · rw [if_neg h, if_neg fun z => h z.symm, mg_comm]
theorem lenR_nn {rs : List Run} (k : ∀ r ∈ rs, 1 ≤ r.2) : 0 ≤ lenR rs := by
  rw [← len_it rs k]
  exact Int.natCast_nonneg _
theorem num_nn {a : Option Run} (p : PosO a) : 0 ≤ numR a := by
  cases a with
  | none => exact Int.le_refl _
  | some r =>
    have := p r rfl
    show 0 ≤ r.2
    omega
theorem mg_bd : ∀ (rs : List Run) (a b : Option Run) (s m : Int), (∀ r ∈ rs, 1 ≤ r.2) → PosO a → PosO b → mgR rs a b s = some m → s ≤ m ∧ m ≤ s + lenR rs
  | [], _, _, _, _, _, _, _, h => by cases h
  | r :: t, a, b, s, m, k, pa, pb, h => by
    have c1 := k r (List.mem_cons_self ..)
    have kt : ∀ x ∈ t, 1 ≤ x.2 := fun x hx => k x (List.mem_cons_of_mem _ hx)
    have lt : 0 ≤ lenR t := lenR_nn kt
    have h : (if MW a b r.1 r.2 then some (s + numR a) else mgR t (stepR a r.1 r.2) (stepR b r.1 r.2) (s + r.2)) = some m := h
    rw [lenR_cons]
    by_cases g : MW a b r.1 r.2
    · rw [if_pos g] at h
      have h := Option.some.inj h
      have := num_nn pa
      have := g.2.2
      omega
    · rw [if_neg g] at h
      have := mg_bd t _ _ _ m kt (stepR_pos pa c1) (stepR_pos pb c1) h
      omega
theorem mg_end : ∀ (rs : List Run) (a b : Option Run) (s m : Int), (∀ r ∈ rs, 1 ≤ r.2) → PosO a → PosO b → a ≠ b → mgR rs a b s = some m → stR rs a = stR rs b
  | [], _, _, _, _, _, _, _, _, h => by cases h
  | r :: t, a, b, s, m, k, pa, pb, ne, h => by
    have c1 := k r (List.mem_cons_self ..)
    have kt : ∀ x ∈ t, 1 ≤ x.2 := fun x hx => k x (List.mem_cons_of_mem _ hx)
    have h : (if MW a b r.1 r.2 then some (s + numR a) else mgR t (stepR a r.1 r.2) (stepR b r.1 r.2) (s + r.2)) = some m := h
    rw [stR_cons, stR_cons]
    by_cases g : MW a b r.1 r.2
    · rw [(meet_iff pa pb ne c1).mpr g]
    · rw [if_neg g] at h
      exact mg_end t _ _ _ m kt (stepR_pos pa c1) (stepR_pos pb c1) (fun z => g ((meet_iff pa pb ne c1).mp z)) h
theorem mm_end {rs : List Run} {a b : Option Run} {m : Int} (k : ∀ r ∈ rs, 1 ≤ r.2) (pa : PosO a) (pb : PosO b) (h : mmR rs a b = some m) : stR rs a = stR rs b := by
  unfold mmR at h
  by_cases e : a = b
  · rw [e]
  · rw [if_neg e] at h
    exact mg_end rs a b 0 m k pa pb e h
theorem mm_bd {rs : List Run} {a b : Option Run} {m : Int} (k : ∀ r ∈ rs, 1 ≤ r.2) (pa : PosO a) (pb : PosO b) (h : mmR rs a b = some m) : 0 ≤ m ∧ m ≤ lenR rs := by
  unfold mmR at h
  by_cases e : a = b
  · rw [if_pos e] at h
    cases h
    exact ⟨Int.le_refl _, lenR_nn k⟩
  · rw [if_neg e] at h
    have := mg_bd rs a b 0 m k pa pb h
    omega
/-- item by item -/
def fewI : List Str → Option Run → Option Run → Int → Option Int
  | [], a, b, m => if a = b then some m else none
  | k :: t, a, b, m => if a = b then some m else fewI t (stepR a k 1) (stepR b k 1) (m + 1)
theorem few_eq {l : List Str} {a : Option Run} {m : Int} : fewI l a a m = some m := by
  cases l with
  | nil => exact if_pos rfl
  | cons k t => exact if_pos rfl
theorem few_run : ∀ (c : Nat) (k : Str) (rest : List Str) (a b : Option Run) (m : Int), PosO a → PosO b → a ≠ b → fewI (List.replicate (c + 1) k ++ rest) a b m = if MW a b k ((c : Int) + 1) then some (m + numR a) else fewI rest (stepR a k ((c : Int) + 1)) (stepR b k ((c : Int) + 1)) (m + ((c : Int) + 1))
  | c, k, rest, a, b, m, pa, pb, ne => by
    have h1 : fewI (List.replicate (c + 1) k ++ rest) a b m = fewI (List.replicate c k ++ rest) (stepR a k 1) (stepR b k 1) (m + 1) := by
      rw [List.replicate_succ]
      exact if_neg ne
    have pa1 := stepR_pos (k := k) (c := 1) pa (by decide)
    have pb1 := stepR_pos (k := k) (c := 1) pb (by decide)
    have i1 := meet_iff (k := k) (c := 1) pa pb ne (by decide)
    rw [h1]
    by_cases e : stepR a k 1 = stepR b k 1
    · have w := i1.mp e
      have w2 : MW a b k ((c : Int) + 1) := ⟨w.1, w.2.1, w.2.2.1, by have := w.2.2.2; omega⟩
      have na : numR a = 1 := by
        have h3 := num_nn pa
        have h4 := w.2.2
        rcases (show numR a = 1 ∨ numR a = 0 by omega) with z | z
        · exact z
        · exfalso
          have an : a = none := by
            cases a with
            | none => rfl
            | some r =>
              have := pa r rfl
              have z : r.2 = 0 := z
              omega
          have bn : b = none := by
            cases b with
            | none => rfl
            | some r =>
              have := pb r rfl
              have z2 : r.2 = numR (some r) := rfl
              omega
          exact ne (an.trans bn.symm)
      rw [e, few_eq, if_pos w2, na]
    · cases c with
      | zero =>
        have w2 : ¬ MW a b k (((0 : Nat) : Int) + 1) := fun z => e (i1.mpr z)
        rw [if_neg w2]
        rfl
      | succ c =>
        have ih := few_run c k rest (stepR a k 1) (stepR b k 1) (m + 1) pa1 pb1 e
        rw [ih]
        have ea := step_step (s := a) (k := k) (c := (c : Int) + 1) pa (by omega)
        have eb := step_step (s := b) (k := k) (c := (c : Int) + 1) pb (by omega)
        have cc : (1 : Int) + ((c : Int) + 1) = (((c + 1 : Nat) : Int) + 1) := by omega
        rw [cc] at ea eb
        have iff1 := meet_iff (k := k) (c := (c : Int) + 1) pa1 pb1 e (by omega)
        have iff2 := meet_iff (k := k) (c := ((c + 1 : Nat) : Int) + 1) pa pb ne (by omega)
        rw [ea, eb] at iff1
        by_cases g : MW a b k (((c + 1 : Nat) : Int) + 1)
        · have g1 := iff1.mp (iff2.mpr g)
          rw [if_pos g, if_pos g1]
          congr 1
          cases a with
          | none =>
            exfalso
            have := g.2.2.1
            cases b with
            | none => exact ne rfl
            | some s =>
              have h2 := pb s rfl
              have : (0 : Int) = s.2 := this
              omega
          | some r =>
            have rk : r.1 ≠ k := fun z => g.1 (by show V.str r.1 = V.str k; rw [z])
            rcases step_cases (r := r) (k := k) (c := 1) with ⟨f, fs⟩ | ⟨f, j, fs⟩ | ⟨f, j, fs⟩ | ⟨f, j, fs⟩
            · exact absurd f rk
            · rw [fs]
              show m + 1 + (r.2 - 1) = m + r.2
              omega
            · exfalso
              have gb := g.2.2.1
              cases b with
              | none =>
                have gb : r.2 = 0 := gb
                omega
              | some s =>
                have sk : s.1 ≠ k := fun z => g.2.1 (by show V.str s.1 = V.str k; rw [z])
                have gb : r.2 = s.2 := gb
                rcases step_cases (r := s) (k := k) (c := 1) with ⟨u, us⟩ | ⟨u, v, us⟩ | ⟨u, v, us⟩ | ⟨u, v, us⟩
                · exact sk u
                · omega
                · exact e (by rw [fs, us])
                · omega
            · have := pa r rfl
              omega
        · have g1 : ¬ MW (stepR a k 1) (stepR b k 1) k ((c : Int) + 1) := fun z => g (iff2.mp (iff1.mpr z))
          rw [if_neg g, if_neg g1, ea, eb, show m + 1 + ((c : Int) + 1) = m + (((c + 1 : Nat) : Int) + 1) by omega]
theorem few_mg : ∀ (rs : List Run) (a b : Option Run) (m : Int), (∀ r ∈ rs, 1 ≤ r.2) → PosO a → PosO b → a ≠ b → fewI (itR rs) a b m = mgR rs a b m
  | [], _, _, _, _, _, _, ne => if_neg ne
  | r :: t, a, b, m, k, pa, pb, ne => by
    have c1 := k r (List.mem_cons_self ..)
    have kt : ∀ x ∈ t, 1 ≤ x.2 := fun x hx => k x (List.mem_cons_of_mem _ hx)
    obtain ⟨c, hc⟩ : ∃ c : Nat, r.2.toNat = c + 1 := ⟨r.2.toNat - 1, by omega⟩
    have er : ((c : Int) + 1) = r.2 := by omega
    have e : itR (r :: t) = List.replicate r.2.toNat r.1 ++ itR t := rfl
    rw [e, hc, few_run c r.1 (itR t) a b m pa pb ne, er]
    show _ = (if MW a b r.1 r.2 then some (m + numR a) else mgR t (stepR a r.1 r.2) (stepR b r.1 r.2) (m + r.2))
    by_cases g : MW a b r.1 r.2
    · rw [if_pos g, if_pos g]
    · rw [if_neg g, if_neg g]
      exact few_mg t _ _ _ kt (stepR_pos pa c1) (stepR_pos pb c1) (fun z => g ((meet_iff pa pb ne c1).mp z))
theorem few_mm {rs : List Run} {a b : Option Run} (k : ∀ r ∈ rs, 1 ≤ r.2) (pa : PosO a) (pb : PosO b) : fewI (itR rs) a b 0 = mmR rs a b := by
  unfold mmR
  by_cases e : a = b
  · rw [if_pos e, e, few_eq]
  · rw [if_neg e]
    exact few_mg rs a b 0 k pa pb e
def oV : Option Int → V
  | none => .non
  | some i => .int i
section
variable {P : Program} {w : World} {K : PySem.W.Frag} {mg : Str → Option Value} {base : Heap}
end
end UP

set_option Elab.async false
set_option linter.all false
set_option maxRecDepth 100000
set_option maxHeartbeats 4000000
namespace UP
open PySem PySem.Spec PyProof.Rows L2
theorem Reel.runs_ne {H : Hp} {p a : Addr} {rs : List Run} (z : Reel H p) (h : Runs H a rs) : a ≠ p := by
  obtain ⟨xs, e, hp⟩ := h
  obtain ⟨g, c, gs, cs, n, s, hs, _⟩ := z
  refine ne_of e hs fun q => ?_
  have q := HO.lst.inj q
  subst q
  cases hp with
  | cons _ hp =>
  cases hp with
  | cons _ hp =>
  cases hp with
  | cons h _ =>
    obtain ⟨t, e, _⟩ := h
    cases e
theorem RB.runs {p a : Addr} {H H' : Hp} {rs : List Run} (b : RB p H H') (z : Reel H p) (h : Runs H a rs) : Runs H' a rs := by
  have n := z.runs_ne h
  obtain ⟨xs, e, hp⟩ := h
  exact ⟨xs, b.but _ _ n e, Paired.imp (fun _ _ => b.run z) hp⟩
theorem altR_snoc {l : List Run} {x : Run} (h : Alt l) (k : ∀ y, l[l.length - 1]? = some y → y.1 ≠ x.1) : Alt (l ++ [x]) := alt_snoc h k
section
variable {P : Program} {w : World} {K : PySem.W.Frag} {mg : Str → Option Value} {base : Heap}
/-! _law_runs: slots 0:reel 1:names 2:many 3:longest 4:found 5:turn 6:kind -/
abbrev s_law_runs : Stmt := topS 34
theorem sc_law_runs : FnScope ["reel", "names", "many", "longest", "found", "turn", "kind"] ["reel", "names", "many", "longest"] (defScope s_law_runs) := ⟨rfl, rfl, rfl, by decide +kernel, rfl, by decide +kernel, by decide +kernel⟩
def sp_law_runs : Sp := fun vs H Q _ => ∃ (p l : Addr) (ks : List Str) (m g : Int), vs = [.ref p, .ref l, .int m, .int g] ∧ Reel H p ∧ H l = some (.lst (ks.map V.str)) ∧ 0 < ks.length ∧ ks.length ≤ 13 ∧ (∀ s ∈ ks, KindOk s) ∧ 0 ≤ m ∧ m ≤ 400 ∧ 1 ≤ g ∧ g ≤ 1000000000000000000000000000000 ∧
  ∀ H' L rs, RB p H H' → Reel H' p → Off H' p L → H L = none → Runs H' L rs → SeqOk rs → (rs.length : Int) ≤ m → (∀ r ∈ rs, r.2 ≤ g) → Q (.ref L) H'
theorem ok_law_runs (D : Df K mg "_law_runs" s_law_runs) (T : Tx mg) (G_law_draw : Has P w K mg base 1 "_law_draw" ["reel", "many"] sp_law_draw) : Has P w K mg base 2 "_law_runs" ["reel", "names", "many", "longest"] sp_law_runs := by
  refine has_of D sc_law_runs (fun _ _ _ _ _ _ us hl => match us, hl with | [_, _, _, _], _ => rfl) (fun vs H Q E h => ?_) (fun f cdv A outer s₀ H vs Q E hr h => ?_)
  · obtain ⟨_, _, _, _, _, rfl, _⟩ := h
    rfl
  · obtain ⟨p, l, ks, m, g, rfl, z, hl, k1, k2, okk, m0, m4, g1, g2, q⟩ := h
    refine ⟨_, (pss_cons (ps_set (i := 4) sc_law_runs.nd rfl (by first | exact Or.inl rfl | exact Or.inr rfl) (pe_lst pa_nil))
    (pss_cons (ps_for PassesOwn.never rfl (pi_range1 (by rfl) T.n_range (pa_cons (pe_callH G_law_draw (hr.mono (by omega)) (by rfl) (pa_cons (pv 0) (pa_cons (pe_op op_add (pv 2) pe_int) pa_nil))) pa_nil)) (pg_name (i := 5) sc_law_runs.nd rfl (by first | exact Or.inl rfl | exact Or.inr rfl))
      (pss_cons (ps_set (i := 6) sc_law_runs.nd rfl (by first | exact Or.inl rfl | exact Or.inr rfl) (pe_ix ix_list (pv 1) (pe_callH G_law_draw (hr.mono (by omega)) (by rfl) (pa_cons (pv 0) (pa_cons (pe_callB call_len_seq (by rfl) T.n_len (by decide +kernel) (pa_cons (pv 1) pa_nil)) pa_nil))) (fun _ _ => rfl)))
    (pss_one (ps_if (PW.pt (pw_or (pt_cmpR (op_eqD hr.units) (pv 4) (pe_lst pa_nil) (nomark _)) (pw_or1 (pt_cmpR op_ne (pe_ix ix_tup (pe_ix ix_list (pv 4) (pe_un un_neg pe_int) (fun _ _ => rfl)) pe_int (fun _ _ => rfl)) (pv 6) (nomark _))))) (pss_one (ps_expr (pe_bm PySem.F.plainAttrs_list PySem.F.slot_list_append PySem.F.type_list_append mt_append (pv 4) (pa_cons (pe_tup (pa_cons (pv 6) (pa_cons (pe_op op_add pe_int (pe_callH G_law_draw (hr.mono (by omega)) (by rfl) (pa_cons (pv 0) (pa_cons (pv 3) pa_nil)))) pa_nil))) pa_nil)))) pss_nil))))
    (pss_one (ps_ret (pv 4))))), ?_⟩
    refine ⟨Nat.zero_le _, fun L nL => ?_⟩
    have nLp := z.ne nL
    have sL := same_upd (o := .lst []) nL
    refine ⟨_, rfl, _, rfl, _, _, rfl, rfl, p, _, rfl, z.same sL, (by show 1 ≤ m + 1; omega), (wide8 (by show 0 ≤ m + 1; omega) (by show m + 1 ≤ _; omega)), fun H1 r b1 z1 r0 r1 => ?_⟩
    have r1 : r < m + 1 := r1
    refine ⟨r, rfl, by omega, by omega, for_range (lo := 0) (n := r.toNat) (fun i σ H' => ∃ y5 y6 rs, σ = [some (.ref p), some (.ref l), some (.int m), some (.int g), some (.ref L), y5, y6] ∧ RB p H H' ∧ Reel H' p ∧ Off H' p L ∧ H' l = some (.lst (ks.map V.str)) ∧ Runs H' L rs ∧ rs.length ≤ i ∧ (∀ r ∈ rs, RunOk r ∧ r.2 ≤ g) ∧ Alt rs)
      ⟨none, none, [], rfl, (RB.of sL).trans b1, z1, b1.off _ _ upd_same ((z.off nL).upd nLp), b1.strs (z.same sL) (sL _ _ hl), ⟨[], b1.but _ _ nLp upd_same, .nil⟩, Nat.zero_le _, (fun r h => by cases h), (fun i x y h => by simp at h)⟩ (fun i σ H6 hi hP => ?_) (fun σ H6 hP => ?_)⟩
    · obtain ⟨y5, y6, rs, rfl, b6, z6, o6, hl6, hR, lr, okr, alt⟩ := hP
      refine ⟨_, rfl, _, rfl, _, rfl, l, _, rfl, .inl (.of hl6), p, _, rfl, z6, ?_, ?_, fun H7 r7 b7 z7 r70 r71 => ?_⟩
      · rw [List.length_map]
        omega
      · rw [List.length_map]
        exact wide8 (by omega) (by omega)
      rw [List.length_map] at r71
      have lt : r7.toNat < ks.length := by omega
      have hl7 := b7.strs z6 hl6
      have ek : (ks.map V.str)[r7.toNat]? = some (.str ks[r7.toNat]) := by
        rw [List.getElem?_map, List.getElem?_eq_getElem lt]
        rfl
      have kk : KindOk ks[r7.toNat] := okk _ (List.getElem_mem lt)
      generalize ks[r7.toNat] = kd at ek kk
      refine ⟨l, _, r7, _, rfl, rfl, .of hl7, atI_ofR r70 ek, ?_⟩
      have hR8 : Runs H7 L rs := b7.runs z6 hR
      have B8 := b6.trans b7
      have o8 : Off H7 p L := by
        obtain ⟨xs, hx, _⟩ := hR
        exact b7.off _ _ hx o6
      have okR : ∀ r ∈ rs, KindOk r.1 := fun r h => (okr r h).1.1
      clear b7 hR hl6 b6 z6 o6
      obtain ⟨xs, hx, hpr⟩ := hR8
      have lx : xs.length = rs.length := Paired.len hpr
      dsimp only
      refine if_by (fun b H9 => Same H7 H9 ∧ (b = true → ∀ y, rs[rs.length - 1]? = some y → y.1 ≠ kd)) (fun Q' k => ?_) (fun H9 hq => ?_) (fun H9 hq => ?_)
      · refine ⟨_, rfl, Nat.zero_le _, fun e ne => ?_⟩
        have se : Same H7 (upd H7 e (.lst [])) := same_upd ne
        refine ⟨.list (rs.map dRun), .list [], .lst (.of (se _ _ hx)) (dp_all (prs_same se hpr)), .lst (.of upd_same) .nil, shaped_runs okR, shaped_nil, _, rfl, ?_⟩
        rw [eqv_nil]
        cases hrs : rs with
        | nil => exact iteP rfl (k _ _ ⟨se, fun _ y hy => by rw [hrs] at hy; cases hy⟩)
        | cons r0 t0 =>
          refine iteN rfl ?_
          have hne : rs ≠ [] := by rw [hrs]; intro z; cases z
          have hlt : rs.length - 1 < rs.length := by
            have : 0 < rs.length := by rw [hrs]; exact Nat.succ_pos _
            omega
          obtain ⟨x, ex, hxv⟩ := Paired.at' hpr (List.getElem?_eq_getElem hlt)
          obtain ⟨tt, rfl, htt⟩ := RunV.same se hxv
          have exl : atI xs (-1) = some (.ref tt) := by
            have h1 : xs ≠ [] := fun z => by rw [z] at lx; rw [hrs] at lx; cases lx
            have h2 : xs = xs.dropLast ++ [xs.getLast h1] := (List.dropLast_concat_getLast h1).symm
            have h3 : xs.getLast h1 = .ref tt := by
              have := List.getLast?_eq_getElem? (l := xs)
              rw [lx, ex, List.getLast?_eq_some_getLast h1] at this
              exact Option.some.inj this
            rw [h2, h3]
            exact atI_last _ _
          refine ⟨_, rfl, 1, rfl, L, xs, -1, _, rfl, rfl, .of (se _ _ hx), exl, tt, _, 0, _, rfl, rfl, .of htt, at0, _, rfl, rfl, _, rfl, ?_⟩
          refine k _ _ ⟨se, fun hb y hy => ?_⟩
          rw [List.getElem?_eq_getElem hlt] at hy
          cases hy
          intro z
          rw [z] at hb
          simp at hb
      · obtain ⟨s9, ha⟩ := hq
        refine ⟨_, rfl, .inl ⟨rfl, _, SqL.of (s9 _ _ hx)⟩, _, rfl, _, rfl, _, rfl, p, g, rfl, z7.same s9, g1, wide8 (by omega) (by omega), fun H10 r10 b10 z10 r100 r101 => ⟨_, _, rfl, rfl, (by show 2 ≤ sizeLine; decide), fun n nn => ?_⟩⟩
        have hx10 := b10.but _ _ nLp (s9 _ _ hx)
        have hp10 : Paired (RunV H10) xs rs := Paired.imp (fun _ _ h => b10.run (z7.same s9) (h.same s9)) hpr
        have o10 := b10.off _ _ (s9 _ _ hx) (o8.same s9)
        have sn := same_upd (o := .tup [.str kd, .int (1 + r10)]) nn
        refine ⟨L, _, _, rfl, rfl, sn _ _ hx10, small (by omega), ?_⟩
        refine ⟨_, _, rs ++ [(kd, 1 + r10)], rfl, ((((B8.trans (RB.of s9)).trans b10).trans (RB.of sn)).grow nL (o10.same sn)), (z10.same sn).upd (o10.same sn), (o10.same sn).upd nLp, ?_, ⟨_, upd_same, Paired.app (prs_grow (sn _ _ hx10) (prs_same sn hp10)) (.cons (RunV.grow (sn _ _ hx10) ⟨n, rfl, upd_same⟩) .nil)⟩, ?_, ?_, altR_snoc alt (ha rfl)⟩
        · have nl : l ≠ L := ne_of_none hl nL
          rw [upd_ne nl]
          exact sn _ _ (b10.strs (z7.same s9) (s9 _ _ hl7))
        · rw [List.length_append]
          show rs.length + 1 ≤ i + 1
          omega
        · intro r hr
          rcases List.mem_append.mp hr with h | h
          · exact okr r h
          · rw [List.mem_singleton.mp h]
            exact ⟨⟨kk, by show 1 ≤ 1 + r10; omega, by show 1 + r10 ≤ _; omega⟩, by show 1 + r10 ≤ g; omega⟩
      · obtain ⟨s9, ha⟩ := hq
        exact ⟨_, _, rs, rfl, B8.trans (RB.of s9), z7.same s9, o8.same s9, s9 _ _ hl7, ⟨xs, s9 _ _ hx, prs_same s9 hpr⟩, by omega, okr, alt⟩
    · obtain ⟨y5, y6, rs, rfl, b6, z6, o6, hl6, hR, lr, okr, alt⟩ := hP
      exact ⟨_, rfl, q H6 L rs b6 z6 o6 nL hR ⟨by omega, fun r h => (okr r h).1, alt⟩ (by omega) (fun r h => (okr r h).2)⟩
/-! _law_end: slots 0:runs 1:state 2:kind 3:count -/
abbrev s_law_end : Stmt := topS 38
theorem sc_law_end : FnScope ["runs", "state", "kind", "count"] ["runs", "state"] (defScope s_law_end) := ⟨rfl, rfl, rfl, by decide +kernel, rfl, by decide +kernel, by decide +kernel⟩
def sp_law_end : Sp := fun vs H Q _ => ∃ (a : Addr) (rs : List Run) (v : V) (st : Option Run), vs = [.ref a, v] ∧ Runs H a rs ∧ (∀ r ∈ rs, 1 ≤ r.2) ∧ StV H v st ∧ ∀ H' v', Same H H' → StV H' v' (stR rs st) → Q v' H'
theorem ok_law_end (D : Df K mg "_law_end" s_law_end) (G_law_step : Has P w K mg base 1 "_law_step" ["state", "kind", "count"] sp_law_step) : Has P w K mg base 2 "_law_end" ["runs", "state"] sp_law_end := by
  refine has_of D sc_law_end (fun _ _ _ _ _ _ us hl => match us, hl with | [_, _], _ => rfl) (fun vs H Q E h => ?_) (fun f cdv A outer s₀ H vs Q E hr h => ?_)
  · obtain ⟨_, _, _, _, rfl, _⟩ := h
    rfl
  · obtain ⟨a, rs, v, st, rfl, ⟨xs, hx, hpr⟩, pos, hv, q⟩ := h
    have lx : xs.length = rs.length := Paired.len hpr
    refine ⟨_, (pss_cons (ps_for PassesOwn.never rfl (pi_list (pv 0)) (pg_tup rfl (pgs_cons (pg_name (i := 2) sc_law_end.nd rfl (by first | exact Or.inl rfl | exact Or.inr rfl)) (pgs_cons (pg_name (i := 3) sc_law_end.nd rfl (by first | exact Or.inl rfl | exact Or.inr rfl)) pgs_nil)))
      (pss_one (ps_set (i := 1) sc_law_end.nd rfl (by first | exact Or.inl rfl | exact Or.inr rfl) (pe_callH G_law_step (hr.mono (by omega)) (by rfl) (pa_cons (pv 1) (pa_cons (pv 2) (pa_cons (pv 3) pa_nil)))))))
    (pss_one (ps_ret (pv 1)))), ?_⟩
    refine ⟨_, rfl, a, rfl, ⟨xs, .of hx⟩, for_list (K := K) (a := a) (xs := xs) (fun i σ H' => ∃ u y2 y3, σ = [some (.ref a), some u, y2, y3] ∧ Same H H' ∧ StV H' u (stR (rs.take i) st))
      ⟨v, none, none, rfl, Same.refl _, hv⟩ (fun i σ H' _ hP => ?_) (fun i x σ H4 ex hP => ?_) (fun σ H4 hP => ?_)⟩
    · obtain ⟨_, _, _, _, sm, _⟩ := hP
      exact .of (sm _ _ hx)
    · obtain ⟨u, y2, y3, rfl, sm, hu⟩ := hP
      obtain ⟨r, er, hr1⟩ := Paired.at hpr ex
      obtain ⟨t, rfl, ht⟩ := RunV.same sm hr1
      have c1 := pos r (List.mem_of_getElem? er)
      refine ⟨t, _, rfl, .of ht, rfl, _, _, rfl, _, _, rfl, rfl, ?_⟩
      refine ⟨_, rfl, _, rfl, _, rfl, u, _, r.1, r.2, rfl, hu, c1, fun H5 w1 s5 hw1 => ⟨w1, _, _, rfl, sm.trans s5, ?_⟩⟩
      rw [take_snoc er, stR_snoc]
      exact hw1
    · obtain ⟨u, y2, y3, rfl, sm, hu⟩ := hP
      rw [lx, List.take_length] at hu
      exact ⟨_, rfl, q _ _ sm hu⟩
end
end UP

set_option Elab.async false
set_option linter.all false
set_option maxRecDepth 100000
set_option maxHeartbeats 4000000
namespace UP
open PySem PySem.Spec PyProof.Rows L2
theorem stOk_stepC {a : Option Run} {k : Str} {c : Int} (h : StOk a) (kk : KindOk k) (c1 : 1 ≤ c) : StOk (stepR a k c) := by
  intro r e
  have p := stepR_pos (k := k) (c := c) (fun r e => (h r e).2) c1 r e
  refine ⟨?_, p⟩
  cases a with
  | none =>
    cases e
    exact kk
  | some s =>
    have hs := h s rfl
    rcases step_cases (r := s) (k := k) (c := c) with ⟨_, es⟩ | ⟨_, _, es⟩ | ⟨_, _, es⟩ | ⟨_, _, es⟩
    · rw [es] at e
      cases e
      exact kk
    · rw [es] at e
      cases e
      exact hs.1
    · rw [es] at e
      cases e
    · rw [es] at e
      cases e
      exact kk
theorem MW.pos {a b : Option Run} {k : Str} {c : Int} (pa : PosO a) (pb : PosO b) (ne : a ≠ b) (h : MW a b k c) : ∃ r, a = some r ∧ r.1 ≠ k ∧ r.2 ≤ c ∧ 1 ≤ r.2 := by
  cases a with
  | none =>
    cases b with
    | none => exact absurd rfl ne
    | some s =>
      have := pb s rfl
      have := mw_ns.mp h
      omega
  | some r =>
    refine ⟨r, rfl, fun z => h.1 (by show V.str r.1 = V.str k; rw [z]), ?_, pa r rfl⟩
    have h1 : r.2 = numR b := h.2.2.1
    have h2 := h.2.2.2
    omega
section
variable {P : Program} {w : World} {K : PySem.W.Frag} {mg : Str → Option Value} {base : Heap}
end
end UP

set_option Elab.async false
set_option linter.all false
set_option maxRecDepth 100000
set_option maxHeartbeats 4000000
namespace UP
open PySem PySem.Spec PyProof.Rows L2
section
variable {X : Cx} {K : PySem.W.Frag}
theorem op_notIn_seqK (h : X.K = K) : OpR X (compareOp .NotIn) (rIn K true) := h ▸ op_notIn_seq
theorem op_in_seqK (h : X.K = K) : OpR X (compareOp .In) (rIn K false) := h ▸ op_in_seq
end
/-! ### lists of kinds -/
def KsOk (ks : List Str) : Prop := 0 < ks.length ∧ ks.length ≤ 12 ∧ (∀ k ∈ ks, KindOk k) ∧ ∀ (i : Nat) (x y : Str), ks[i]? = some x → ks[i + 1]? = some y → x.cps.toList < y.cps.toList
theorem strR_of {x y : Str} (h : x.cps.toList = y.cps.toList) : x = y := by
  cases x with
  | mk a =>
    cases y with
    | mk b =>
      congr 1
      exact Array.ext' h
theorem rising_next : ∀ (l : List Str) (p : Str), risingS p l = true → ∀ (i : Nat) (x y : Str), (p :: l)[i]? = some x → (p :: l)[i + 1]? = some y → ltCps y.cps.toList x.cps.toList = false
  | [], p, _, i, x, y, _, h2 => by simp at h2
  | z :: t, p, h, 0, x, y, h1, h2 => by
    cases h1
    cases h2
    have h : (!ltCps z.cps.toList p.cps.toList && risingS z t) = true := h
    rw [Bool.and_eq_true] at h
    have := h.1
    cases e : ltCps z.cps.toList p.cps.toList with
    | false => rfl
    | true => rw [e] at this; cases this
  | z :: t, p, h, i + 1, x, y, h1, h2 => by
    have h : (!ltCps z.cps.toList p.cps.toList && risingS z t) = true := h
    rw [Bool.and_eq_true] at h
    exact rising_next t z h.2 i x y h1 h2
theorem ks_of {ks : List Str} (l0 : 0 < ks.length) (l1 : ks.length ≤ 12) (ok : ∀ k ∈ ks, KindOk k) (nd : ks.Nodup ∧ sortedS ks = true) : KsOk ks := by
  refine ⟨l0, l1, ok, fun i x y hx hy => ?_⟩
  cases ks with
  | nil => cases hx
  | cons p t =>
    have h := rising_next t p nd.2 i x y hx hy
    rw [ltCps_eq] at h
    have h := of_decide_eq_false h
    by_cases c : x.cps.toList < y.cps.toList
    · exact c
    · exfalso
      have e : x = y := strR_of (List.le_antisymm h c)
      obtain ⟨h1, e1⟩ := List.getElem?_eq_some_iff.mp hx
      obtain ⟨h2, e2⟩ := List.getElem?_eq_some_iff.mp hy
      have i1 := List.Nodup.idxOf_getElem nd.1 i h1
      have i2 := List.Nodup.idxOf_getElem nd.1 (i + 1) h2
      rw [e1, e] at i1
      rw [e2] at i2
      omega
/-! ### who can meet -/
def TwoK (ks : List Str) (a : Option Run) : Prop := ∃ k1 ∈ ks, ∃ k2 ∈ ks, k1 ≠ k2 ∧ kdV a ≠ .str k1 ∧ kdV a ≠ .str k2
def CanM (ks : List Str) (a b : Option Run) : Prop := (numR a - numR b) % 2 = 0 ∧ ((numR a = numR b ∧ ∃ k ∈ ks, kdV a ≠ .str k ∧ kdV b ≠ .str k) ∨ (numR b < numR a ∧ TwoK ks a) ∨ (numR a < numR b ∧ TwoK ks b))
def mxR (a b : Option Run) : Int := if numR a < numR b then numR b else numR a
def MeetOk (ks : List Str) (a b : Option Run) (rs : List Run) : Prop := (∀ r ∈ rs, r.1 ∈ ks ∧ 1 ≤ r.2) ∧ Alt rs ∧ rs.length ≤ 2 ∧ lenR rs = mxR a b ∧ stR rs a = none ∧ stR rs b = none ∧ mmR rs a b = some (mxR a b)
theorem mx_comm (a b : Option Run) : mxR a b = mxR b a := by
  unfold mxR
  split <;> split <;> omega
theorem can_comm {ks : List Str} {a b : Option Run} (h : CanM ks a b) : CanM ks b a := by
  refine ⟨by have := h.1; omega, ?_⟩
  rcases h.2 with ⟨e, k, hk, h1, h2⟩ | h | h
  · exact .inl ⟨e.symm, k, hk, h2, h1⟩
  · exact .inr (.inr h)
  · exact .inr (.inl h)
theorem meet_comm {ks : List Str} {a b : Option Run} {rs : List Run} (h : MeetOk ks a b rs) : MeetOk ks b a rs := by
  obtain ⟨h1, h2, h3, h4, h5, h6, h7⟩ := h
  exact ⟨h1, h2, h3, h4.trans (mx_comm a b), h6, h5, by rw [mm_comm, h7, mx_comm]⟩
theorem alt_one (r : Run) : Alt [r] := fun i x y h1 h2 => by
  cases i with
  | zero => simp at h2
  | succ i => simp at h2
theorem alt_two {r s : Run} (h : r.1 ≠ s.1) : Alt [r, s] := fun i x y h1 h2 => by
  cases i with
  | zero =>
    cases h1
    cases h2
    exact h
  | succ i =>
    cases i with
    | zero => simp at h2
    | succ i => simp at h2
theorem meet_one {ks : List Str} {a b : Option Run} {k : Str} (pa : PosO a) (pb : PosO b) (ne : a ≠ b) (e : numR a = numR b) (hk : k ∈ ks) (h1 : kdV a ≠ .str k) (h2 : kdV b ≠ .str k) : MeetOk ks a b [(k, numR a)] := by
  have w : MW a b k (numR a) := ⟨h1, h2, e, by omega⟩
  obtain ⟨r, er, rk, _, r1⟩ := w.pos pa pb ne
  obtain ⟨s, es, sk, _, s1⟩ := (MW.comm.mp w).pos pb pa (fun z => ne z.symm)
  subst er
  subst es
  have e : r.2 = s.2 := e
  have sa : stepR (some r) k r.2 = none := by
    rcases step_cases (r := r) (k := k) (c := r.2) with ⟨f, _⟩ | ⟨_, f, _⟩ | ⟨_, _, f⟩ | ⟨_, f, _⟩
    · exact absurd f rk
    · omega
    · exact f
    · omega
  have sb : stepR (some s) k r.2 = none := by
    rcases step_cases (r := s) (k := k) (c := r.2) with ⟨f, _⟩ | ⟨_, f, _⟩ | ⟨_, _, f⟩ | ⟨_, f, _⟩
    · exact absurd f sk
    · omega
    · exact f
    · omega
  have mx : mxR (some r) (some s) = r.2 := by
    unfold mxR
    show (if r.2 < s.2 then s.2 else r.2) = r.2
    split <;> omega
  refine ⟨fun x hx => ?_, alt_one _, by show 1 ≤ 2; decide, ?_, sa, sb, ?_⟩
  · rw [List.mem_singleton.mp hx]
    exact ⟨hk, r1⟩
  · rw [lenR_cons, lenR_nil, mx]
    show r.2 + 0 = r.2
    omega
  · rw [mx]
    unfold mmR
    rw [if_neg ne]
    show (if MW (some r) (some s) k r.2 then some (0 + r.2) else _) = _
    rw [if_pos (show MW (some r) (some s) k r.2 from w), Int.zero_add]
theorem meet_two {ks : List Str} {a b : Option Run} {f g : Str} (pa : PosO a) (pb : PosO b) (lt : numR b < numR a) (ev : (numR a - numR b) % 2 = 0) (hf : f ∈ ks) (hg : g ∈ ks) (h1 : kdV a ≠ .str f) (h2 : kdV b ≠ .str f) (h3 : kdV a ≠ .str g) (fg : f ≠ g) :
    MeetOk ks a b [(f, numR b + (numR a - numR b) / 2), (g, (numR a - numR b) / 2)] := by
  have b0 := num_nn pb
  obtain ⟨h, eh⟩ : ∃ h, (numR a - numR b) / 2 = h := ⟨_, rfl⟩
  have hh : numR a - numR b = 2 * h := by omega
  rw [eh]
  have ne : a ≠ b := fun z => by rw [z] at lt; omega
  cases a with
  | none =>
    have lt : numR b < 0 := lt
    omega
  | some r =>
    have rf : r.1 ≠ f := fun z => h1 (by show V.str r.1 = V.str f; rw [z])
    have rg : r.1 ≠ g := fun z => h3 (by show V.str r.1 = V.str g; rw [z])
    have hr : r.2 - numR b = 2 * h := hh
    have h0 : 1 ≤ h := by
      have lt : numR b < r.2 := lt
      omega
    have sa : stepR (some r) f (numR b + h) = some (r.1, h) := by
      rcases step_cases (r := r) (k := f) (c := numR b + h) with ⟨x, _⟩ | ⟨_, _, x⟩ | ⟨_, x, _⟩ | ⟨_, x, _⟩
      · exact absurd x rf
      · rw [x, show r.2 - (numR b + h) = h by omega]
      · omega
      · omega
    have sb : stepR b f (numR b + h) = some (f, h) := by
      cases b with
      | none =>
        show some (f, 0 + h) = some (f, h)
        rw [Int.zero_add]
      | some s =>
        have sf : s.1 ≠ f := fun z => h2 (by show V.str s.1 = V.str f; rw [z])
        have : numR (some s) = s.2 := rfl
        rcases step_cases (r := s) (k := f) (c := numR (some s) + h) with ⟨x, _⟩ | ⟨_, x, _⟩ | ⟨_, x, _⟩ | ⟨_, _, x⟩
        · exact absurd x sf
        · omega
        · omega
        · rw [x, show numR (some s) + h - s.2 = h by omega]
    have ta : stepR (some (r.1, h)) g h = none := by
      rcases step_cases (r := (r.1, h)) (k := g) (c := h) with ⟨x, _⟩ | ⟨_, x, _⟩ | ⟨_, _, x⟩ | ⟨_, x, _⟩
      · exact absurd x rg
      · have x : h < h := x; omega
      · exact x
      · have x : h < h := x; omega
    have tb : stepR (some (f, h)) g h = none := by
      rcases step_cases (r := (f, h)) (k := g) (c := h) with ⟨x, _⟩ | ⟨_, x, _⟩ | ⟨_, _, x⟩ | ⟨_, x, _⟩
      · exact absurd x fg
      · have x : h < h := x; omega
      · exact x
      · have x : h < h := x; omega
    have mx : mxR (some r) b = r.2 := by
      unfold mxR
      rw [if_neg (by omega)]
      rfl
    refine ⟨fun x hx => ?_, alt_two fg, Nat.le_refl _, ?_, ?_, ?_, ?_⟩
    · rcases List.mem_cons.mp hx with e | e
      · rw [e]
        exact ⟨hf, by show 1 ≤ numR b + h; omega⟩
      · rw [List.mem_singleton.mp e]
        exact ⟨hg, h0⟩
    · rw [lenR_cons, lenR_cons, lenR_nil, mx]
      show numR b + h + (h + 0) = r.2
      omega
    · rw [stR_cons, stR_cons]
      show stR [] (stepR (stepR (some r) f (numR b + h)) g h) = none
      rw [sa, ta]
      rfl
    · rw [stR_cons, stR_cons]
      show stR [] (stepR (stepR b f (numR b + h)) g h) = none
      rw [sb, tb]
      rfl
    · rw [mx]
      unfold mmR
      rw [if_neg ne]
      show (if MW (some r) b f (numR b + h) then _ else mgR [(g, h)] (stepR (some r) f (numR b + h)) (stepR b f (numR b + h)) (0 + (numR b + h))) = _
      rw [if_neg (fun z : MW (some r) b f (numR b + h) => by have z : r.2 = numR b := z.2.2.1; omega), sa, sb]
      show (if MW (some (r.1, h)) (some (f, h)) g h then some (0 + (numR b + h) + h) else _) = _
      rw [if_pos (show MW (some (r.1, h)) (some (f, h)) g h from mw_ss.mpr ⟨rg, fg, rfl, Int.le_refl _⟩), show 0 + (numR b + h) + h = r.2 by omega]
def fk (x y : V) (k : Str) : Bool := !inV (.str k) [x, y]
theorem eqV_kd (a : Option Run) (k : Str) : eqV (kdV a) (.str k) = decide (kdV a = .str k) := by
  cases a with
  | none =>
    show false = _
    rw [decide_eq_false (by intro z; cases z)]
  | some r =>
    show (r.1 == k) = decide (V.str r.1 = V.str k)
    rw [Bool.eq_iff_iff]
    simp
theorem fk_iff {a b : Option Run} {k : Str} : fk (kdV a) (kdV b) k = true ↔ kdV a ≠ .str k ∧ kdV b ≠ .str k := by
  unfold fk inV
  simp only [List.any_cons, List.any_nil, Bool.or_false, eqV_kd]
  by_cases h1 : kdV a = .str k
  · simp [h1]
  · by_cases h2 : kdV b = .str k
    · simp [h1, h2]
    · simp [h1, h2]
theorem fk_str {a : Option Run} {f k : Str} : fk (kdV a) (.str f) k = true ↔ kdV a ≠ .str k ∧ f ≠ k := by
  have := fk_iff (a := a) (b := some (f, 1)) (k := k)
  rw [show kdV (some (f, (1 : Int))) = .str f from rfl] at this
  rw [this]
  exact ⟨fun h => ⟨h.1, fun z => h.2 (by rw [z])⟩, fun h => ⟨h.1, fun z => h.2 (V.str.inj z)⟩⟩
theorem flat_kd (a : Option Run) : flatV (kdV a) = true := by
  cases a <;> rfl
theorem dp_strl {K : PySem.W.Frag} {H : Hp} : ∀ (l : List Str), DpAll K H (l.map V.str) (l.map PyData.str)
  | [] => .nil
  | x :: t => .cons (.str x) (dp_strl t)
theorem shaped_strl {l : List Str} (h : ∀ s ∈ l, KindOk s) : SeqAt.shaped (.list (l.map PyData.str)) = true := by
  have c : ∀ {l : List Str}, (∀ s ∈ l, KindOk s) → PyData.canLayAll0 (l.map PyData.str) = true ∧ PyData.depthAll (l.map PyData.str) ≤ 1 := by
    intro l h
    induction l with
    | nil => exact ⟨by simp [PyData.canLayAll0], by simp [PyData.depthAll]⟩
    | cons x t ih =>
      obtain ⟨h1, h2⟩ := ih fun s hs => h s (List.mem_cons_of_mem _ hs)
      refine ⟨?_, ?_⟩
      · rw [List.map_cons, PyData.canLayAll0, h1]
        simp [PyData.canLay0, (h x (List.mem_cons_self ..)).str]
      · rw [List.map_cons, PyData.depthAll]
        exact Nat.max_le.mpr ⟨by simp [PyData.depth], h2⟩
  obtain ⟨h1, h2⟩ := c h
  unfold SeqAt.shaped
  rw [PyData.canLay0, h1, PyData.depth]
  exact decide_eq_true (by omega)
theorem eqv_nilS (l : List Str) : PyData.eqv (.list (l.map PyData.str)) (.list []) = l.isEmpty := by
  cases l with
  | nil => simp [PyData.eqv, PyData.eqvAll]
  | cons r t => simp [PyData.eqv, PyData.eqvAll]
theorem filter_snoc {p : Str → Bool} {l : List Str} {i : Nat} {x : Str} (h : l[i]? = some x) : (l.take (i + 1)).filter p = (l.take i).filter p ++ if p x = true then [x] else [] := by
  rw [take_snoc h, List.filter_append]
  congr 1
  cases e : p x <;> simp [e]
theorem str_at {ks : List Str} {i : Nat} {x : V} (h : (ks.map V.str)[i]? = some x) : ∃ k, ks[i]? = some k ∧ x = .str k := by
  rw [List.getElem?_map] at h
  cases e : ks[i]? with
  | none =>
    rw [e] at h
    cases h
  | some n =>
    rw [e] at h
    exact ⟨n, rfl, (Option.some.inj h).symm⟩
section
variable {P : Program} {w : World} {K : PySem.W.Frag} {mg : Str → Option Value} {base : Heap}
end
end UP

set_option Elab.async false
set_option linter.all false
set_option maxRecDepth 100000
set_option maxHeartbeats 4000000
namespace UP
open PySem PySem.Spec PyProof.Rows L2
theorem empty_iff {l : List Str} : l.isEmpty = true ↔ l = [] := by
  cases l <;> simp
section
variable {P : Program} {w : World} {K : PySem.W.Frag} {mg : Str → Option Value} {base : Heap}
end
end UP

set_option Elab.async false
set_option linter.all false
set_option maxRecDepth 100000
set_option maxHeartbeats 4000000
namespace UP
open PySem PySem.Spec PyProof.Rows L2
theorem canM_dec (ks : List Str) (a b : Option Run) : CanM ks a b ∨ ¬ CanM ks a b := Classical.em _
open Classical in
noncomputable def dueR (ks : List Str) (a b : Option Run) : Option Int := if a = b then some 0 else if CanM ks a b then some (mxR a b) else none
theorem due_comm (ks : List Str) (a b : Option Run) : dueR ks a b = dueR ks b a := by
  unfold dueR
  by_cases e : a = b
  · rw [if_pos e, if_pos e.symm]
  · rw [if_neg e, if_neg (show ¬ b = a from fun z => e z.symm)]
    by_cases c : CanM ks a b
    · rw [if_pos c, if_pos (can_comm c), mx_comm]
    · rw [if_neg c, if_neg fun z => c (can_comm z)]
theorem due_can {ks : List Str} {a b : Option Run} (e : a ≠ b) (c : CanM ks a b) : dueR ks a b = some (mxR a b) := by
  unfold dueR
  rw [if_neg e, if_pos c]
theorem due_not {ks : List Str} {a b : Option Run} (e : a ≠ b) (c : ¬ CanM ks a b) : dueR ks a b = none := by
  unfold dueR
  rw [if_neg e, if_neg c]
theorem due_eq {ks : List Str} {a : Option Run} : dueR ks a a = some 0 := by
  unfold dueR
  rw [if_pos rfl]
theorem dist_par {a b : Option Run} : distR a b % 2 = 1 ↔ (numR a - numR b) % 2 = 1 := by
  unfold distR
  split
  · split <;> omega
  · omega
section
variable {P : Program} {w : World} {K : PySem.W.Frag} {mg : Str → Option Value} {base : Heap}
/-! _law_of: slots 0:kind 1:count -/
abbrev s_law_of : Stmt := topS 39
theorem sc_law_of : FnScope ["kind", "count"] ["kind", "count"] (defScope s_law_of) := ⟨rfl, rfl, rfl, by decide +kernel, rfl, by decide +kernel, by decide +kernel⟩
def sp_law_of : Sp := fun vs H Q _ => ∃ (k : Str) (c : Int), vs = [.str k, .int c] ∧ 0 ≤ c ∧ ∀ H' v, Same H H' → StV H' v (withR k c) → Q v H'
theorem ok_law_of (D : Df K mg "_law_of" s_law_of) : Has P w K mg base 1 "_law_of" ["kind", "count"] sp_law_of := by
  refine has_of D sc_law_of (fun _ _ _ _ _ _ us hl => match us, hl with | [_, _], _ => rfl) (fun vs H Q E h => ?_) (fun f cdv A outer s₀ H vs Q E hr h => ?_)
  · obtain ⟨_, _, rfl, _⟩ := h
    rfl
  · obtain ⟨k, c, rfl, c0, q⟩ := h
    refine ⟨_, (pss_one (ps_ret (pe_ifExp (pt_cmpR op_gt (pv 1) pe_int (nomark _)) (pe_tup (pa_cons (pv 0) (pa_cons (pv 1) pa_nil))) pe_non))), ?_⟩
    refine ⟨_, rfl, _, _, rfl, rfl, _, rfl, ite2 (fun e => ?_) (fun e => ?_)⟩
    · have e : 0 < c := of_decide_eq_true e
      refine ⟨_, rfl, _, rfl, (by show 2 ≤ sizeLine; decide), fun t nt => q _ _ (same_upd nt) ?_⟩
      rw [show withR k c = some (k, c) from if_neg (by omega)]
      exact ⟨t, rfl, upd_same⟩
    · have e : ¬ 0 < c := fun z => e (decide_eq_true z)
      refine q _ _ (Same.refl _) ?_
      rw [show withR k c = none from if_pos (by omega)]
      rfl
end
end UP

set_option Elab.async false
set_option linter.all false
set_option maxRecDepth 100000
set_option maxHeartbeats 4000000
namespace UP
open PySem PySem.Spec PyProof.Rows L2
theorem p30R : (10 : Int) ^ ((30 : Int).toNat) = 1000000000000000000000000000000 := by decide +kernel
theorem w30 : ((10 : Int) ^ ((30 : Int).toNat)).natAbs < 2 ^ 7999 := by
  rw [p30R]
  exact Nat.lt_of_lt_of_le (show (1000000000000000000000000000000 : Int).natAbs < 2 ^ 256 by decide) (Nat.pow_le_pow_right (by decide) (by decide))
def Bd (st : Option Run) : Prop := ∀ r, st = some r → r.2 ≤ 1000000000000000000000000000000
section
variable {P : Program} {w : World} {K : PySem.W.Frag} {mg : Str → Option Value} {base : Heap}
end
end UP

set_option Elab.async false
set_option linter.all false
set_option maxRecDepth 100000
set_option maxHeartbeats 4000000
namespace UP
open PySem PySem.Spec PyProof.Rows L2
/-! ### counts -/
def Asc (cs : List Run) : Prop := ∀ (i : Nat) (x y : Run), cs[i]? = some x → cs[i + 1]? = some y → x.1.cps.toList < y.1.cps.toList
def CtOk (cs : List Run) : Prop := cs.length ≤ 12 ∧ (∀ r ∈ cs, RunOk r) ∧ Asc cs
def cwR (cs : List Run) (st : Option Run) : List Run := cs.map fun r => (r.1, if kdV st = .str r.1 then r.2 - numR st else r.2)
/-- a list whose items are all tuples -/
def Refs (H : Hp) (p : Addr) (n : Nat) : Prop := ∃ xs : List V, H p = some (.lst xs) ∧ xs.length = n ∧ ∀ x ∈ xs, ∃ t, x = V.ref t
theorem Refs.same {H H' : Hp} {p : Addr} {n : Nat} (s : Same H H') (h : Refs H p n) : Refs H' p n := by
  obtain ⟨xs, e, l, k⟩ := h
  exact ⟨xs, s _ _ e, l, k⟩
/-- a tuple with these parts; a list of such tuples -/
def TupV (H : Hp) (x : V) (ys : List V) : Prop := ∃ t, x = V.ref t ∧ H t = some (.tup ys)
def RefL (H : Hp) (p : Addr) (l : List (List V)) : Prop := ∃ xs : List V, H p = some (.lst xs) ∧ Paired (TupV H) xs l
theorem TupV.same {H H' : Hp} {x : V} {ys : List V} (s : Same H H') (h : TupV H x ys) : TupV H' x ys := by
  obtain ⟨t, e, z⟩ := h
  exact ⟨t, e, s _ _ z⟩
theorem TupV.grow {H : Hp} {D : Addr} {acc acc' : List V} {x : V} {ys : List V} (hD : H D = some (.lst acc)) (h : TupV H x ys) : TupV (upd H D (.lst acc')) x ys := by
  obtain ⟨t, e, z⟩ := h
  refine ⟨t, e, ?_⟩
  rw [upd_ne (ne_of z hD (by intro q; cases q))]
  exact z
theorem tups_same {H H' : Hp} {xs : List V} {l : List (List V)} (s : Same H H') (h : Paired (TupV H) xs l) : Paired (TupV H') xs l := Paired.imp (fun _ _ z => z.same s) h
theorem tups_grow {H : Hp} {D : Addr} {acc acc' : List V} {xs : List V} {l : List (List V)} (hD : H D = some (.lst acc)) (h : Paired (TupV H) xs l) : Paired (TupV (upd H D (.lst acc'))) xs l := Paired.imp (fun _ _ z => z.grow hD) h
theorem RefL.same {H H' : Hp} {p : Addr} {l : List (List V)} (s : Same H H') (h : RefL H p l) : RefL H' p l := by
  obtain ⟨xs, e, z⟩ := h
  exact ⟨xs, s _ _ e, tups_same s z⟩
section
variable {P : Program} {w : World} {K : PySem.W.Frag} {mg : Str → Option Value} {base : Heap}
/-! is_counts: slots 0:value 1:entry 2:following -/
abbrev s_is_counts : Stmt := topS 21
theorem sc_is_counts : FnScope ["value", "entry", "following"] ["value"] (defScope s_is_counts) := ⟨rfl, rfl, rfl, by decide +kernel, rfl, by decide +kernel, by decide +kernel⟩
def sp_is_counts : Sp := fun vs H Q _ => ∃ (v : V) (rs : List Run), vs = [v] ∧ RunsG H v rs ∧ CtOk rs ∧ ∀ H', Same H H' → Q (.bl true) H'
theorem ok_is_counts (D : Df K mg "is_counts" s_is_counts) (T : Tx mg) (G_is_listed : Has P w K mg base 1 "is_listed" ["value", "most"] sp_is_listed) (G_is_run : Has P w K mg base 3 "is_run" ["value"] sp_is_run) :
    Has P w K mg base 4 "is_counts" ["value"] sp_is_counts := by
  refine has_of D sc_is_counts (fun _ _ _ _ _ _ us hl => match us, hl with | [_], _ => rfl) (fun vs H Q E h => ?_) (fun f cdv A outer s H vs Q E hr h => ?_)
  · obtain ⟨v, r, rfl, _⟩ := h
    rfl
  · obtain ⟨v, rs, rfl, ⟨a, xs, rfl, hx, hp⟩, ⟨l4, rok, alt⟩, q⟩ := h
    have lx : xs.length = rs.length := Paired.len hp
    refine ⟨_, (pss_cons (ps_if (PW.pt (pw_or (pt_not (pt_val (pe_callH G_is_listed (hr.mono (by omega)) (by rfl) (pa_cons (pv 0) (pa_cons (pe_glI T.c_MAX_KINDS (by rfl)) pa_nil))))) (pw_or1 (pt_not (pt_val (pe_callB (cr_all rfl) (by rfl) T.n_all (by decide +kernel) (pa_cons (pe_lc (own := [("entry", 1)]) rfl sc_is_counts.nd (pi_seqV 0) (blkOk_by (N := ["value", "entry", "following"]) (sc := defScope s_is_counts) (by decide +kernel)) (fun _ _ _ _ _ => (pg_name (i := 1) sc_is_counts.nd rfl (by first | exact Or.inl rfl | exact Or.inr rfl))) (fun _ _ _ _ _ => pts_nil) (fun _ _ _ _ _ => (pe_callH G_is_run (hr.mono (by omega)) (by rfl) (pa_cons (pv 1) pa_nil)))) pa_nil))))))) (pss_one (ps_ret pe_bl)) pss_nil)
    (pss_one (ps_ret (pe_callB (cr_all rfl) (by rfl) T.n_all (by decide +kernel) (pa_cons (pe_lc (own := [("entry", 1), ("following", 2)]) rfl sc_is_counts.nd (pi_zip1 (i := 0) (RZ.pi_zipA (by rfl) T.n_zip (pa_cons (pv 0) (pa_cons (pe_slice (SlR.or sl_list sl_tupA) (pv 0) (po_some pe_int) po_none) pa_nil))) (fun _ _ _ q => ⟨1, rfl, q⟩) (fun _ _ _ q => q)) (blkOk_by (N := ["value", "entry", "following"]) (sc := defScope s_is_counts) (by decide +kernel)) (fun _ _ _ _ _ => (pg_tupK (K := K) (n := 2) rfl rfl (pgs_cons (pg_name (i := 1) sc_is_counts.nd rfl (by first | exact Or.inl rfl | exact Or.inr rfl)) (pgs_cons (pg_name (i := 2) sc_is_counts.nd rfl (by first | exact Or.inl rfl | exact Or.inr rfl)) pgs_nil)))) (fun _ _ _ _ _ => pts_nil) (fun _ _ _ _ _ => (pe_cmpR op_lt_str (pe_ix (ix_seqK (K := K) rfl) (pv 1) pe_int (fun _ _ => rfl)) (pe_ix (ix_seqK (K := K) rfl) (pv 2) pe_int (fun _ _ => rfl)) (nomark _)))) pa_nil))))), ?_⟩
    refine ⟨_, rfl, a, xs, 12, rfl, hx, fun H1 s1 => ⟨_, rfl, iteN ?_ ?_⟩⟩
    · show (!decide ((xs.length : Int) ≤ 12)) = false
      rw [decide_eq_true (by omega)]
      rfl
    refine ⟨a, xs, rfl, hx.same s1, fun J wk L nL => lc_wk wk (fun i H' => Same H1 H' ∧ H' L = some (.lst ((List.replicate i true).map V.bl))) (fun _ _ p => p.1) ⟨same_upd nL, upd_same⟩ (fun i x H2 ex p => ?_) (fun H2 p => ?_)⟩
    · obtain ⟨sm, hL⟩ := p
      obtain ⟨r, er, hr1⟩ := Paired.at hp ex
      have hi : i < xs.length := (List.getElem?_eq_some_iff.mp ex).1
      refine ⟨rfl, yesT ⟨_, rfl, x, r, rfl, RunG.same (s1.trans sm) hr1, rok r (List.mem_of_getElem? er), fun H3 s3 => ⟨_, s3 _ _ hL, ?_, same_grow nL (sm.trans s3), ?_⟩⟩⟩
      · simp only [List.length_map, List.length_replicate]
        exact small (by omega)
      · rw [upd_same, List.replicate_succ', List.map_append]
        rfl
    · refine ⟨L, _, rfl, .of p.2, _, rfl, iteN ?_ ?_⟩
      · rw [all_rep]
        rfl
      have s2 : Same H H2 := s1.trans p.1
      refine ⟨a, xs, rfl, hx.same s2, fun J Hc sc wk M nM => ?_⟩
      have sA : Same H Hc := s2.trans sc
      refine lc_gen (n := xs.length - 1) (fun i H' => Same Hc H' ∧ H' M = some (.lst ((List.replicate i true).map V.bl))) ⟨same_upd nM, upd_same⟩ (fun i H' hi p => wk.go i H' p.1 (by omega)) (fun H' p => wk.stop H' p.1) (fun i x H3 H4 hi p y => ?_) (fun H' p => ?_)
      · obtain ⟨T', x1, x2, rfl, nT, rfl, g1, g2⟩ := wk.yld i x H3 H4 p.1 y
        obtain ⟨sm, hM⟩ := p
        have g2 := g2 (by omega)
        have sB : Same H H3 := sA.trans sm
        obtain ⟨r1, e1, v1⟩ := Paired.at hp g1
        obtain ⟨r2, e2, v2⟩ := Paired.at hp g2
        obtain ⟨t1, rfl, w1⟩ := RunG.same (sB.trans (same_upd (o := .tup [x1, x2]) nT)) v1
        obtain ⟨t2, rfl, w2⟩ := RunG.same (sB.trans (same_upd (o := .tup [_, x2]) nT)) v2
        refine ⟨T', _, rfl, .of upd_same, rfl, _, _, rfl, _, _, rfl, rfl, rfl, yesT ?_⟩
        refine ⟨_, rfl, ix0 w1 ⟨_, rfl, ix0 w2 ⟨_, _, rfl, rfl, _, same_upd nT _ _ hM, ?_, same_grow nM (sm.trans (same_upd nT)), ?_⟩⟩⟩
        · simp only [List.length_map, List.length_replicate]
          exact small (by omega)
        · rw [upd_same, List.replicate_succ', List.map_append, decide_eq_true (alt i r1 r2 e1 e2)]
          rfl
      · refine ⟨M, _, rfl, .of p.2, ?_⟩
        rw [all_rep]
        exact q _ (sA.trans p.1)
/-! checked_counts: slots 0:counts 1:kind 2:count -/
abbrev s_checked_counts : Stmt := topS 22
theorem sc_checked_counts : FnScope ["counts", "kind", "count"] ["counts"] (defScope s_checked_counts) := ⟨rfl, rfl, rfl, by decide +kernel, rfl, by decide +kernel, by decide +kernel⟩
def sp_checked_counts : Sp := fun vs H Q _ => ∃ (v : V) (rs : List Run), vs = [v] ∧ RunsG H v rs ∧ CtOk rs ∧ ∀ H' p, Same H H' → H p = none → Runs H' p rs → Q (.ref p) H'
theorem ok_checked_counts (D : Df K mg "checked_counts" s_checked_counts) (T : Tx mg) (G_is_counts : Has P w K mg base 4 "is_counts" ["value"] sp_is_counts) :
    Has P w K mg base 5 "checked_counts" ["counts"] sp_checked_counts := by
  refine has_of D sc_checked_counts (fun _ _ _ _ _ _ us hl => match us, hl with | [_], _ => rfl) (fun vs H Q E h => ?_) (fun f cdv A outer s H vs Q E hr h => ?_)
  · obtain ⟨v, r, rfl, _⟩ := h
    rfl
  · obtain ⟨v, rs, rfl, hR, ok, q⟩ := h
    refine ⟨_, (pss_cons (ps_if (pt_not (pt_val (pe_callH G_is_counts (hr.mono (by omega)) (by rfl) (pa_cons (pv 0) pa_nil)))) (pss_one ps_never) pss_nil)
    (pss_one (ps_ret (pe_lc (own := [("kind", 1), ("count", 2)]) rfl sc_checked_counts.nd (pi_seqV 0) (blkOk_by (N := ["counts", "kind", "count"]) (sc := defScope s_checked_counts) (by decide +kernel)) (fun _ _ _ _ _ => (pg_any (n := 2) rfl (pgs_cons (pg_name (i := 1) sc_checked_counts.nd rfl (by first | exact Or.inl rfl | exact Or.inr rfl)) (pgs_cons (pg_name (i := 2) sc_checked_counts.nd rfl (by first | exact Or.inl rfl | exact Or.inr rfl)) pgs_nil)))) (fun _ _ _ _ _ => pts_nil) (fun _ _ _ _ _ => (pe_tup (pa_cons (pv 1) (pa_cons (pv 2) pa_nil)))))))), ?_⟩
    refine ⟨_, rfl, v, rs, rfl, hR, ok, fun H1 s1 => ⟨true, rfl, iteF ?_⟩⟩
    obtain ⟨a, xs, rfl, hx, hp⟩ := hR
    have lx : xs.length = rs.length := Paired.len hp
    refine ⟨a, xs, rfl, hx.same s1, fun J wk L nL => lc_wk wk (fun i H' => Same H1 H' ∧ ∃ ys, H' L = some (.lst ys) ∧ Paired (RunV H') ys (rs.take i)) (fun _ _ p => p.1) ⟨same_upd nL, [], upd_same, .nil⟩ (fun i x H2 ex p => ?_) (fun H2 p => ?_)⟩
    · obtain ⟨sm, ys, hL, hy⟩ := p
      obtain ⟨r, er, hr1⟩ := Paired.at hp ex
      have hi : i < xs.length := (List.getElem?_eq_some_iff.mp ex).1
      obtain ⟨t, rfl, ht⟩ := RunG.same (s1.trans sm) hr1
      refine ⟨t, _, rfl, ht, rfl, _, _, rfl, _, _, rfl, rfl, rfl, yesT ⟨_, rfl, _, rfl, (by show 2 ≤ sizeLine; decide), fun n nn => ⟨_, same_upd nn _ _ hL, ?_, same_grow nL (sm.trans (same_upd nn)), _, upd_same, ?_⟩⟩⟩
      · have := Paired.len hy
        rw [List.length_take] at this
        exact small (by have := ok.1; omega)
      · rw [take_snoc er]
        refine Paired.app (prs_grow (same_upd nn _ _ hL) (prs_same (same_upd nn) hy)) (.cons ?_ .nil)
        exact RunV.grow (same_upd nn _ _ hL) ⟨n, rfl, upd_same⟩
    · obtain ⟨sm, ys, hL, hy⟩ := p
      rw [lx, List.take_length] at hy
      exact q H2 L (s1.trans sm) (s1.free nL) ⟨ys, hL, hy⟩
/-! counts_without: slots 0:counts 1:state 2:kind 3:count -/
abbrev s_counts_without : Stmt := topS 23
theorem sc_counts_without : FnScope ["counts", "state", "kind", "count"] ["counts", "state"] (defScope s_counts_without) := ⟨rfl, rfl, rfl, by decide +kernel, rfl, by decide +kernel, by decide +kernel⟩
def sp_counts_without : Sp := fun vs H Q _ => ∃ (a : Addr) (cs : List Run) (v : V) (st : Option Run), vs = [.ref a, v] ∧ Runs H a cs ∧ cs.length ≤ 12 ∧ StV H v st ∧ ∀ H' p, Same H H' → H p = none → Runs H' p (cwR cs st) → Q (.ref p) H'
theorem ok_counts_without (D : Df K mg "counts_without" s_counts_without) (G_kind_of : Has P w K mg base 1 "kind_of" ["state"] sp_kind_of) (G_waiting_number : Has P w K mg base 1 "waiting_number" ["state"] sp_waiting_number) : Has P w K mg base 2 "counts_without" ["counts", "state"] sp_counts_without := by
  refine has_of D sc_counts_without (fun _ _ _ _ _ _ us hl => match us, hl with | [_, _], _ => rfl) (fun vs H Q E h => ?_) (fun f cdv A outer s H vs Q E hr h => ?_)
  · obtain ⟨_, _, _, _, rfl, _⟩ := h
    rfl
  · obtain ⟨a, cs, v, st, rfl, ⟨xs, hx, hp⟩, l12, hv, q⟩ := h
    have lx : xs.length = cs.length := Paired.len hp
    refine ⟨_, (pss_one (ps_ret (pe_lc (own := [("kind", 2), ("count", 3)]) rfl sc_counts_without.nd (pi_list (pv 0)) (blkOk_by (N := ["counts", "state", "kind", "count"]) (sc := defScope s_counts_without) (by decide +kernel)) (fun _ _ _ _ _ => (pg_tupK (K := K) (n := 2) rfl rfl (pgs_cons (pg_name (i := 2) sc_counts_without.nd rfl (by first | exact Or.inl rfl | exact Or.inr rfl)) (pgs_cons (pg_name (i := 3) sc_counts_without.nd rfl (by first | exact Or.inl rfl | exact Or.inr rfl)) pgs_nil)))) (fun _ _ _ _ _ => pts_nil) (fun _ _ _ _ _ => (pe_tup (pa_cons (pv 2) (pa_cons (pe_ifExp (pt_cmpR op_eq (pv 2) (pe_callH G_kind_of (hr.mono (by omega)) (by rfl) (pa_cons (pv 1) pa_nil)) (nomark _)) (pe_op op_sub (pv 3) (pe_callH G_waiting_number (hr.mono (by omega)) (by rfl) (pa_cons (pv 1) pa_nil))) (pv 3)) pa_nil))))))), ?_⟩
    refine ⟨_, rfl, a, rfl, ⟨xs, .of hx⟩, fun L nL => lc_list (K := K) (a := a) (xs := xs) (fun i H' => Same H H' ∧ ∃ ys, H' L = some (.lst ys) ∧ Paired (RunV H') ys (cwR (cs.take i) st)) ⟨same_upd nL, [], upd_same, .nil⟩ (fun i H' _ p => .of (p.1 _ _ hx)) (fun i x H2 ex p => ?_) (fun H2 p => ?_)⟩
    · obtain ⟨sm, ys, hL, hy⟩ := p
      obtain ⟨r, er, hr1⟩ := Paired.at hp ex
      have hi : i < xs.length := (List.getElem?_eq_some_iff.mp ex).1
      obtain ⟨t, rfl, ht⟩ := RunV.same sm hr1
      have ly := Paired.len hy
      have lc : (cwR (cs.take i) st).length ≤ 12 := by
        unfold cwR
        rw [List.length_map, List.length_take]
        omega
      have en : cwR (cs.take (i + 1)) st = cwR (cs.take i) st ++ [(r.1, if kdV st = .str r.1 then r.2 - numR st else r.2)] := by
        rw [take_snoc er]
        unfold cwR
        rw [List.map_append]
        rfl
      have fin : ∀ c : Int, c = (if kdV st = .str r.1 then r.2 - numR st else r.2) → ∀ n, H2 n = none → ∃ acc, (upd H2 n (.tup [.str r.1, .int c])) L = some (.lst acc) ∧ acc.length < sizeLine ∧ Same H (upd (upd H2 n (.tup [.str r.1, .int c])) L (.lst (acc ++ [.ref n]))) ∧ ∃ ys, (upd (upd H2 n (.tup [.str r.1, .int c])) L (.lst (acc ++ [.ref n]))) L = some (.lst ys) ∧ Paired (RunV (upd (upd H2 n (.tup [.str r.1, .int c])) L (.lst (acc ++ [.ref n])))) ys (cwR (cs.take (i + 1)) st) := by
        intro c ec n nn
        refine ⟨ys, same_upd nn _ _ hL, small (by omega), same_grow nL (sm.trans (same_upd nn)), _, upd_same, ?_⟩
        rw [en, ← ec]
        exact Paired.app (prs_grow (same_upd nn _ _ hL) (prs_same (same_upd nn) hy)) (.cons (RunV.grow (same_upd nn _ _ hL) ⟨n, rfl, upd_same⟩) .nil)
      refine ⟨t, _, rfl, .of ht, rfl, _, _, rfl, _, _, rfl, rfl, rfl, yesT ⟨_, rfl, _, rfl, _, rfl, v, st, rfl, hv.same sm, ?_⟩⟩
      have sc : scal (.str r.1) (kdV st) = true := by cases st <;> rfl
      refine ⟨sc, _, rfl, ite2 (fun e => ?_) (fun e => ?_)⟩
      · have e : V.str r.1 = kdV st := of_decide_eq_true e
        exact ⟨_, rfl, _, rfl, v, st, rfl, hv.same sm, _, _, rfl, rfl, (by show 2 ≤ sizeLine; decide), fun n nn => fin _ (by rw [if_pos e.symm]) n nn⟩
      · have e : ¬ V.str r.1 = kdV st := fun z => e (decide_eq_true z)
        exact ⟨_, rfl, (by show 2 ≤ sizeLine; decide), fun n nn => fin _ (by rw [if_neg fun z => e z.symm]) n nn⟩
    · obtain ⟨sm, ys, hL, hy⟩ := p
      rw [lx, List.take_length] at hy
      exact q H2 L sm nL ⟨ys, hL, hy⟩
/-! majority_in: slots 0:counts 1:total 2:kind 3:count -/
abbrev s_majority_in : Stmt := topS 24
theorem sc_majority_in : FnScope ["counts", "total", "kind", "count"] ["counts"] (defScope s_majority_in) := ⟨rfl, rfl, rfl, by decide +kernel, rfl, by decide +kernel, by decide +kernel⟩
def majR (cs : List Run) : List Run := cs.filter fun r => decide (lenR cs < 2 * r.2)
def majL (cs : List Run) : List (List V) := (majR cs).map fun r => [.str "majority", .str r.1, .int r.2, .int (lenR cs)]
def sp_majority_in : Sp := fun vs H Q _ => ∃ (a : Addr) (cs : List Run), vs = [.ref a] ∧ Runs H a cs ∧ cs.length ≤ 12 ∧ ∀ H' p, Same H H' → H p = none → RefL H' p (majL cs) → Q (.ref p) H'
theorem ok_majority_in (D : Df K mg "majority_in" s_majority_in) (G_length_of : Has P w K mg base 1 "length_of" ["runs"] sp_length_of) : Has P w K mg base 2 "majority_in" ["counts"] sp_majority_in := by
  refine has_of D sc_majority_in (fun _ _ _ _ _ _ us hl => match us, hl with | [_], _ => rfl) (fun vs H Q E h => ?_) (fun f cdv A outer s H vs Q E hr h => ?_)
  · obtain ⟨_, _, rfl, _⟩ := h
    rfl
  · obtain ⟨a, cs, rfl, hR, l12, q⟩ := h
    refine ⟨_, (pss_cons (ps_set (i := 1) sc_majority_in.nd rfl (by first | exact Or.inl rfl | exact Or.inr rfl) (pe_callH G_length_of (hr.mono (by omega)) (by rfl) (pa_cons (pv 0) pa_nil)))
    (pss_one (ps_ret (pe_lc (own := [("kind", 2), ("count", 3)]) rfl sc_majority_in.nd (pi_list (pv 0)) (blkOk_by (N := ["counts", "total", "kind", "count"]) (sc := defScope s_majority_in) (by decide +kernel)) (fun _ _ _ _ _ => (pg_tupK (K := K) (n := 2) rfl rfl (pgs_cons (pg_name (i := 2) sc_majority_in.nd rfl (by first | exact Or.inl rfl | exact Or.inr rfl)) (pgs_cons (pg_name (i := 3) sc_majority_in.nd rfl (by first | exact Or.inl rfl | exact Or.inr rfl)) pgs_nil)))) (fun _ _ _ _ _ => pts_one (pt_cmpR op_gt (pe_op op_mul pe_int (pv 3)) (pv 1) (nomark _))) (fun _ _ _ _ _ => (pe_tup (pa_cons pe_str (pa_cons (pv 2) (pa_cons (pv 3) (pa_cons (pv 1) pa_nil)))))))))), ?_⟩
    refine ⟨_, rfl, a, cs, rfl, hR, by omega, fun H1 s1 => ?_⟩
    obtain ⟨xs, hx, hp⟩ := hR.same s1
    have lx : xs.length = cs.length := Paired.len hp
    refine ⟨_, rfl, a, rfl, ⟨xs, .of hx⟩, fun L nL => lc_list (K := K) (a := a) (xs := xs) (fun i H' => Same H1 H' ∧ RefL H' L (((cs.take i).filter fun r => decide (lenR cs < 2 * r.2)).map fun r => [.str "majority", .str r.1, .int r.2, .int (lenR cs)])) ⟨same_upd nL, [], upd_same, .nil⟩ (fun i H' _ p => .of (p.1 _ _ hx)) (fun i x H2 ex p => ?_) (fun H2 p => ?_)⟩
    · obtain ⟨sm, ys, hL, hy⟩ := p
      have ly := Paired.len hy
      rw [List.length_map] at ly
      obtain ⟨r, er, hr1⟩ := Paired.at hp ex
      have hi : i < xs.length := (List.getElem?_eq_some_iff.mp ex).1
      obtain ⟨t, rfl, ht⟩ := RunV.same sm hr1
      have lf := List.length_filter_le (fun r : Run => decide (lenR cs < 2 * r.2)) (cs.take i)
      rw [List.length_take] at lf
      rw [take_snoc er, List.filter_append, List.map_append]
      refine ⟨t, _, rfl, .of ht, rfl, _, _, rfl, _, _, rfl, rfl, rfl, _, rfl, _, _, rfl, rfl, .inl ⟨by decide, by decide⟩, _, rfl, _, _, rfl, rfl, _, rfl, ite2 (fun e => ?_) (fun e => ?_)⟩
      · have e : lenR cs < 2 * r.2 := of_decide_eq_true e
        refine ⟨_, rfl, _, rfl, _, rfl, (by show 4 ≤ sizeLine; decide), fun n nn => ⟨_, same_upd nn _ _ hL, small (by omega), same_grow nL (sm.trans (same_upd nn)), _, upd_same, ?_⟩⟩
        rw [List.filter_cons, if_pos (decide_eq_true e)]
        exact Paired.app (tups_grow (same_upd nn _ _ hL) (tups_same (same_upd nn) hy)) (.cons (TupV.grow (same_upd nn _ _ hL) ⟨n, rfl, upd_same⟩) .nil)
      · have e : ¬ lenR cs < 2 * r.2 := fun z => e (decide_eq_true z)
        rw [List.filter_cons, if_neg (by rw [decide_eq_false e]; decide), List.filter_nil, List.map_nil, List.append_nil]
        exact ⟨sm, ys, hL, hy⟩
    · obtain ⟨sm, rf⟩ := p
      rw [lx, List.take_length] at rf
      exact q H2 L (s1.trans sm) (s1.free nL) rf
end
end UP

set_option Elab.async false
set_option linter.all false
set_option maxRecDepth 100000
set_option maxHeartbeats 4000000
namespace UP
open PySem PySem.Spec PyProof.Rows L2
def CanR (cs : List Run) (st : Option Run) : Prop := (∀ r, st = some r → r.1 ∈ cs.map (·.1)) ∧ (∀ r ∈ cs, kdV st = .str r.1 → numR st ≤ r.2) ∧ lenR (cwR cs st) % 2 = 0 ∧ ∀ r ∈ cwR cs st, 2 * r.2 ≤ lenR (cwR cs st)
def fewP (st : Option Run) (r : Run) : Bool := decide (V.str r.1 = kdV st) && decide (r.2 < numR st)
theorem cw_len (cs : List Run) (st : Option Run) : (cwR cs st).length = cs.length := by
  unfold cwR
  rw [List.length_map]
theorem filter_zero {α : Type} {p : α → Bool} {l : List α} : (l.filter p).length = 0 ↔ ∀ x ∈ l, p x = false := by
  rw [List.length_eq_zero_iff, List.filter_eq_nil_iff]
  refine ⟨fun h x hx => ?_, fun h x hx => ?_⟩
  · cases e : p x with
    | false => rfl
    | true => exact absurd e (h x hx)
  · rw [h x hx]
    decide
theorem can_iff {cs : List Run} {st : Option Run} {f m k : Nat} (kn : ∀ r, st = some r → r.1 ∈ cs.map (·.1)) (hf : f = (cs.filter (fewP st)).length) (hm : m = (majR (cwR cs st)).length) (hk : k = 0 ↔ lenR (cwR cs st) % 2 ≠ 1) : f + k + (if f = 0 then m else 0) = 0 ↔ CanR cs st := by
  have e1 : f = 0 ↔ ∀ r ∈ cs, kdV st = .str r.1 → numR st ≤ r.2 := by
    rw [hf, filter_zero]
    refine forall_congr' fun r => forall_congr' fun hr => ?_
    unfold fewP
    constructor
    · intro h e
      rw [decide_eq_true e.symm, Bool.true_and] at h
      have := of_decide_eq_false h
      omega
    · intro h
      by_cases e : V.str r.1 = kdV st
      · rw [decide_eq_true e, Bool.true_and, decide_eq_false (by have := h e.symm; omega)]
      · rw [decide_eq_false e, Bool.false_and]
  have e2 : m = 0 ↔ ∀ r ∈ cwR cs st, 2 * r.2 ≤ lenR (cwR cs st) := by
    rw [hm]
    unfold majR
    rw [filter_zero]
    refine forall_congr' fun r => forall_congr' fun hr => ?_
    constructor
    · intro h
      have := of_decide_eq_false h
      omega
    · intro h
      exact decide_eq_false (by omega)
  unfold CanR
  constructor
  · intro h
    have f0 : f = 0 := by omega
    rw [if_pos f0] at h
    exact ⟨kn, e1.mp f0, by have := hk.mp (by omega); omega, e2.mp (by omega)⟩
  · rintro ⟨_, h1, h2, h3⟩
    have f0 := e1.mpr h1
    have k0 := hk.mpr (by omega)
    have m0 := e2.mpr h3
    rw [if_pos f0]
    omega
/-- the reasons, one by one -/
def fewL (cs : List Run) (st : Option Run) : List (List V) := (cs.filter (fewP st)).map fun r => [.str "few", .int r.2]
def parL (cs : List Run) (st : Option Run) : List (List V) := if lenR (cwR cs st) % 2 = 1 then [[.str "parity", .int (lenR (cwR cs st))]] else []
def genL (cs : List Run) (st : Option Run) : List (List V) := fewL cs st ++ parL cs st ++ (if fewL cs st = [] then majL (cwR cs st) else [])
def knR (cs : List Run) (st : Option Run) : Prop := ∀ r, st = some r → r.1 ∈ cs.map (·.1)
open Classical in
noncomputable def rsR (cs : List Run) (st : Option Run) : List (List V) := if knR cs st then genL cs st else [[.str "unknown", kdV st]]
theorem rs_unk {cs : List Run} {r : Run} (h : r.1 ∉ cs.map (·.1)) : rsR cs (some r) = [[.str "unknown", .str r.1]] := if_neg fun z => h (z r rfl)
theorem rs_kn {cs : List Run} {st : Option Run} (h : knR cs st) : rsR cs st = genL cs st := if_pos h
theorem rs_few0 {cs : List Run} {st : Option Run} (h : knR cs st) (f : fewL cs st = []) : rsR cs st = fewL cs st ++ parL cs st ++ majL (cwR cs st) := by
  rw [rs_kn h]
  unfold genL
  rw [if_pos f]
theorem rs_few {cs : List Run} {st : Option Run} (h : knR cs st) (f : fewL cs st ≠ []) : rsR cs st = fewL cs st ++ parL cs st ++ [] := by
  rw [rs_kn h]
  unfold genL
  rw [if_neg f]
theorem rs_nil {cs : List Run} {st : Option Run} : rsR cs st = [] ↔ CanR cs st := by
  by_cases kn : knR cs st
  · have hk : (parL cs st).length = 0 ↔ lenR (cwR cs st) % 2 ≠ 1 := by
      unfold parL
      split
      · rename_i c
        exact ⟨fun z => (by cases z), fun z => absurd c z⟩
      · rename_i c
        exact ⟨fun _ => c, fun _ => rfl⟩
    have := can_iff (f := (fewL cs st).length) (m := (majL (cwR cs st)).length) (k := (parL cs st).length) kn (by unfold fewL; rw [List.length_map]) (by unfold majL; rw [List.length_map]) hk
    rw [← this, rs_kn kn, ← List.length_eq_zero_iff]
    unfold genL
    rw [List.length_append, List.length_append]
    by_cases f : fewL cs st = []
    · rw [if_pos f, if_pos (by rw [f]; rfl)]
    · rw [if_neg f, if_neg (fun z => f (List.length_eq_zero_iff.mp z))]
      rfl
  · refine ⟨fun z => ?_, fun z => absurd z.1 kn⟩
    unfold rsR at z
    rw [if_neg kn] at z
    cases z
section
variable {P : Program} {w : World} {K : PySem.W.Frag} {mg : Str → Option Value} {base : Heap}
/-! reasons_in: slots 0:counts 1:state 2:others 3:total 4:parity 5:few 6:kind 7:count -/
abbrev s_reasons_in : Stmt := topS 25
theorem sc_reasons_in : FnScope ["counts", "state", "others", "total", "parity", "few", "kind", "count"] ["counts", "state"] (defScope s_reasons_in) := ⟨rfl, rfl, rfl, by decide +kernel, rfl, by decide +kernel, by decide +kernel⟩
def sp_reasons_in : Sp := fun vs H Q _ => ∃ (a : Addr) (cs : List Run) (v : V) (st : Option Run), vs = [.ref a, v] ∧ Runs H a cs ∧ cs.length ≤ 12 ∧ StV H v st ∧ ∀ H' p, Same H H' → H p = none → RefL H' p (rsR cs st) → Q (.ref p) H'
theorem ok_reasons_in (D : Df K mg "reasons_in" s_reasons_in) (T : Tx mg) (G_counts_without : Has P w K mg base 2 "counts_without" ["counts", "state"] sp_counts_without) (G_length_of : Has P w K mg base 1 "length_of" ["runs"] sp_length_of) (G_kind_of : Has P w K mg base 1 "kind_of" ["state"] sp_kind_of) (G_waiting_number : Has P w K mg base 1 "waiting_number" ["state"] sp_waiting_number) (G_majority_in : Has P w K mg base 2 "majority_in" ["counts"] sp_majority_in) : Has P w K mg base 3 "reasons_in" ["counts", "state"] sp_reasons_in := by
  refine has_of D sc_reasons_in (fun _ _ _ _ _ _ us hl => match us, hl with | [_, _], _ => rfl) (fun vs H Q E h => ?_) (fun f cdv A outer s H vs Q E hr h => ?_)
  · obtain ⟨_, _, _, _, rfl, _⟩ := h
    rfl
  · obtain ⟨a, cs, v, st, rfl, hR, l12, hv, q⟩ := h
    have hR0 := hR
    obtain ⟨xs, hx, hp⟩ := hR
    have lx : xs.length = cs.length := Paired.len hp
    refine ⟨_, (C8.pss_cut (ps_if (PW.pt (pw_and (pt_cmpR op_notN (pv 1) pe_non (nomark _)) (pw_and1 (pt_cmpR op_notIn_seq (pe_ix ix_tup (pv 1) pe_int (fun _ _ => rfl)) (pe_lc (own := [("kind", 6), ("count", 7)]) rfl sc_reasons_in.nd (pi_list (pv 0)) (blkOk_by (N := ["counts", "state", "others", "total", "parity", "few", "kind", "count"]) (sc := defScope s_reasons_in) (by decide +kernel)) (fun _ _ _ _ _ => (pg_tupK (K := K) (n := 2) rfl rfl (pgs_cons (pg_name (i := 6) sc_reasons_in.nd rfl (by first | exact Or.inl rfl | exact Or.inr rfl)) (pgs_cons (pg_name (i := 7) sc_reasons_in.nd rfl (by first | exact Or.inl rfl | exact Or.inr rfl)) pgs_nil)))) (fun _ _ _ _ _ => pts_nil) (fun _ _ _ _ _ => (pv 6))) (by with_unfolding_all rfl))))) (pss_one (ps_ret (pe_lst (pa_cons (pe_tup (pa_cons pe_str (pa_cons (pe_ix ix_tup (pv 1) pe_int (fun _ _ => rfl)) pa_nil))) pa_nil)))) pss_nil)
    (pss_cons (ps_set (i := 2) sc_reasons_in.nd rfl (by first | exact Or.inl rfl | exact Or.inr rfl) (pe_callH G_counts_without (hr.mono (by omega)) (by rfl) (pa_cons (pv 0) (pa_cons (pv 1) pa_nil))))
    (pss_cons (ps_set (i := 3) sc_reasons_in.nd rfl (by first | exact Or.inl rfl | exact Or.inr rfl) (pe_callH G_length_of (hr.mono (by omega)) (by rfl) (pa_cons (pv 2) pa_nil)))
    (C8.pss_cut (ps_set (i := 4) sc_reasons_in.nd rfl (by first | exact Or.inl rfl | exact Or.inr rfl) (pe_ifExp (pt_cmpR op_eq (pe_op op_mod (pv 3) pe_int) pe_int (nomark _)) (pe_lst (pa_cons (pe_tup (pa_cons pe_str (pa_cons (pv 3) pa_nil))) pa_nil)) (pe_lst pa_nil)))
    (pss_cons (ps_setLc (i := 5) (own := [("kind", 6), ("count", 7)]) rfl sc_reasons_in.nd rfl rfl (sw_true rfl rfl rfl (by decide +kernel)) (pi_list (pv 0)) (blkOk_by (N := ["counts", "state", "others", "total", "parity", "few", "kind", "count"]) (sc := defScope s_reasons_in) (by decide +kernel)) (fun _ _ _ _ _ => (pg_tupK (K := K) (n := 2) rfl rfl (pgs_cons (pg_name (i := 6) sc_reasons_in.nd rfl (by first | exact Or.inl rfl | exact Or.inr rfl)) (pgs_cons (pg_name (i := 7) sc_reasons_in.nd rfl (by first | exact Or.inl rfl | exact Or.inr rfl)) pgs_nil)))) (fun _ _ _ _ _ => pts_one (PW.pt (pw_and (pt_cmpR op_eq (pv 6) (pe_callH G_kind_of (hr.mono (by omega)) (by rfl) (pa_cons (pv 1) pa_nil)) (nomark _)) (pw_and1 (pt_cmpR op_lt (pv 7) (pe_callH G_waiting_number (hr.mono (by omega)) (by rfl) (pa_cons (pv 1) pa_nil)) (nomark _)))))) (fun _ _ _ _ _ => (pe_tup (pa_cons pe_str (pa_cons (pv 7) pa_nil)))))
    (pss_one (ps_ret (pe_op op_cat (pe_op op_cat (pv 5) (pv 4)) (pe_ifExp (pt_truth (pv 5) (by intro _; rfl)) (pe_lst pa_nil) (pe_callH G_majority_in (hr.mono (by omega)) (by rfl) (pa_cons (pv 2) pa_nil))))))))))), ?_⟩
    refine ⟨fun σ' H' => σ' = [some (.ref a), some v, none, none, none, none, none, none] ∧ Same H H' ∧ ∀ r, st = some r → r.1 ∈ cs.map (·.1), ?_, fun σ' H1 hM => ?_⟩
    · cases st with
      | none =>
        obtain rfl := hv
        exact ⟨_, rfl, rfl, _, rfl, iteN rfl (iteF ⟨rfl, Same.refl _, fun r h => by cases h⟩)⟩
      | some r =>
        obtain ⟨t, rfl, ht⟩ := hv
        refine ⟨_, rfl, rfl, _, rfl, iteP rfl ⟨_, rfl, t, _, 0, _, rfl, rfl, .of ht, at0, _, rfl, a, rfl, ⟨xs, .of hx⟩, fun L nL => lc_list (K := K) (a := a) (xs := xs) (fun i H' => Same H H' ∧ H' L = some (.lst (((cs.take i).map (·.1)).map V.str))) ⟨same_upd nL, upd_same⟩ (fun i H' _ p => .of (p.1 _ _ hx)) (fun i x H2 ex p => ?_) (fun H2 p => ?_)⟩⟩
        · obtain ⟨sm, hL⟩ := p
          obtain ⟨c, er, hr1⟩ := Paired.at hp ex
          have hi : i < xs.length := (List.getElem?_eq_some_iff.mp ex).1
          obtain ⟨tc, rfl, htc⟩ := RunV.same sm hr1
          refine ⟨tc, _, rfl, .of htc, rfl, _, _, rfl, _, _, rfl, rfl, rfl, yesT ⟨_, rfl, _, hL, ?_, same_grow nL sm, ?_⟩⟩
          · rw [List.length_map, List.length_map, List.length_take]
            exact small (by omega)
          · rw [upd_same, take_snoc er, List.map_append, List.map_append]
            rfl
        · obtain ⟨sm, hL⟩ := p
          rw [lx, List.take_length] at hL
          have fl : ((cs.map (·.1)).map V.str).all flatV = true := by
            rw [List.all_eq_true]
            intro x hx
            obtain ⟨k, _, rfl⟩ := List.mem_map.mp hx
            rfl
          refine ⟨L, _, rfl, .inl (.of hL), rfl, fl, _, rfl, ?_⟩
          by_cases c : r.1 ∈ cs.map (·.1)
          · have e1 : inV (.str r.1) ((cs.map (·.1)).map V.str) = true := by
              unfold inV
              rw [List.any_eq_true]
              refine ⟨.str r.1, List.mem_map.mpr ⟨r.1, c, rfl⟩, ?_⟩
              show (r.1 == r.1) = true
              simp
            exact iteN (by rw [e1]; rfl) ⟨rfl, sm, fun r' h => by cases h; exact c⟩
          · have e1 : inV (.str r.1) ((cs.map (·.1)).map V.str) = false := by
              unfold inV
              rw [List.any_eq_false]
              intro x hx h
              obtain ⟨k, hk, rfl⟩ := List.mem_map.mp hx
              have h : (k == r.1) = true := h
              have := eq_of_beq h
              rw [this] at hk
              exact c hk
            refine iteP (by rw [e1]; rfl) ⟨_, rfl, t, _, 0, _, rfl, rfl, .of (sm _ _ ht), at0, (by show 2 ≤ sizeLine; decide), fun n nn => ⟨(by show 1 ≤ sizeLine; decide), fun p np => ?_⟩⟩
            refine q _ p (sm.trans ((same_upd nn).trans (same_upd np))) (sm.free ((same_upd nn).free np)) ?_
            rw [rs_unk c]
            exact ⟨_, upd_same, .cons ⟨n, rfl, same_upd np _ _ upd_same⟩ .nil⟩
    obtain ⟨rfl, s1, kn⟩ := hM
    refine ⟨_, rfl, _, rfl, a, cs, v, st, rfl, hR0.same s1, l12, hv.same s1, fun H2 p2 s2 n2 h2 => ?_⟩
    refine ⟨_, rfl, p2, _, rfl, h2, by rw [cw_len]; omega, fun H3 s3 => ?_⟩
    have h3 := h2.same s3
    have sA := s1.trans (s2.trans s3)
    refine ⟨fun σ' H' => ∃ pp, σ' = [some (.ref a), some v, some (.ref p2), some (.int (lenR (cwR cs st))), some (.ref pp), none, none, none] ∧ Same H3 H' ∧ RefL H' pp (parL cs st), ?_, fun σ' H4 hM => ?_⟩
    · refine ⟨_, rfl, _, _, rfl, rfl, (by show (0 : Int) < 2; decide), rfl, _, rfl, ite2 (fun e => ?_) (fun e => ?_)⟩
      · have e : lenR (cwR cs st) % 2 = 1 := V.int.inj (of_decide_eq_true e)
        refine ⟨_, rfl, (by show 2 ≤ sizeLine; decide), fun n nn => ⟨(by show 1 ≤ sizeLine; decide), fun p np => ⟨p, rfl, (same_upd nn).trans (same_upd np), by rw [show parL cs st = [[.str "parity", .int (lenR (cwR cs st))]] from if_pos e]; exact ⟨_, upd_same, .cons ⟨n, rfl, same_upd np _ _ upd_same⟩ .nil⟩⟩⟩⟩
      · have e : ¬ lenR (cwR cs st) % 2 = 1 := fun z => e (decide_eq_true (by show V.int (lenR (cwR cs st) % 2) = V.int 1; rw [z]))
        exact ⟨Nat.zero_le _, fun p np => ⟨p, rfl, same_upd np, by rw [show parL cs st = [] from if_neg e]; exact ⟨_, upd_same, .nil⟩⟩⟩
    obtain ⟨pp, rfl, s4, hpp⟩ := hM
    have lpar : (parL cs st).length ≤ 1 := by
      unfold parL
      split
      · exact Nat.le_refl _
      · exact Nat.zero_le _
    have sB := sA.trans s4
    have h4 := h3.same s4
    have hx4 := sB _ _ hx
    have hv4 := hv.same sB
    refine ⟨_, rfl, a, rfl, ⟨xs, .of hx4⟩, fun F nF => lc_list (K := K) (a := a) (xs := xs) (fun i H' => Same H4 H' ∧ RefL H' F (((cs.take i).filter (fewP st)).map fun r => [.str "few", .int r.2])) ⟨same_upd nF, [], upd_same, .nil⟩ (fun i H' _ p => .of (p.1 _ _ hx4)) (fun i x H5 ex p => ?_) (fun H5 p => ?_)⟩
    · obtain ⟨s5, ys, hF, hy⟩ := p
      have ly := Paired.len hy
      rw [List.length_map] at ly
      obtain ⟨r, er, hr1⟩ := Paired.at hp ex
      have hi : i < xs.length := (List.getElem?_eq_some_iff.mp ex).1
      obtain ⟨t, rfl, ht⟩ := RunV.same (sB.trans s5) hr1
      have lf := List.length_filter_le (fewP st) (cs.take i)
      rw [List.length_take] at lf
      rw [take_snoc er, List.filter_append, List.map_append]
      have sc : scal (.str r.1) (kdV st) = true := by cases st <;> rfl
      have skip : fewP st r = false → Same H4 H5 ∧ RefL H5 F ((((cs.take i).filter (fewP st)).map fun r => [.str "few", .int r.2]) ++ (([r].filter (fewP st)).map fun r => [.str "few", .int r.2])) := fun e => by
        rw [List.filter_cons, if_neg (by rw [e]; decide), List.filter_nil, List.map_nil, List.append_nil]
        exact ⟨s5, ys, hF, hy⟩
      refine ⟨t, _, rfl, .of ht, rfl, _, _, rfl, _, _, rfl, rfl, rfl, _, rfl, _, rfl, v, st, rfl, hv4.same s5, sc, _, rfl, ite2 (fun e => ?_) (fun e => iteF (skip ?_))⟩
      · have e : V.str r.1 = kdV st := of_decide_eq_true e
        refine ⟨_, rfl, _, rfl, v, st, rfl, hv4.same s5, _, _, rfl, rfl, _, rfl, ite2 (fun g => ?_) (fun g => skip ?_)⟩
        · have g : r.2 < numR st := of_decide_eq_true g
          have fp : fewP st r = true := by
            unfold fewP
            rw [decide_eq_true e, decide_eq_true g]
            rfl
          refine ⟨_, rfl, (by show 2 ≤ sizeLine; decide), fun n nn => ⟨_, same_upd nn _ _ hF, small (by omega), same_grow nF (s5.trans (same_upd nn)), _, upd_same, ?_⟩⟩
          rw [List.filter_cons, if_pos fp]
          exact Paired.app (tups_grow (same_upd nn _ _ hF) (tups_same (same_upd nn) hy)) (.cons (TupV.grow (same_upd nn _ _ hF) ⟨n, rfl, upd_same⟩) .nil)
        · have g : ¬ r.2 < numR st := fun z => g (decide_eq_true z)
          unfold fewP
          rw [decide_eq_false g, Bool.and_false]
      · have e : ¬ V.str r.1 = kdV st := fun z => e (decide_eq_true z)
        unfold fewP
        rw [decide_eq_false e, Bool.false_and]
    · obtain ⟨s5, hF⟩ := p
      rw [lx, List.take_length] at hF
      have lf := List.length_filter_le (fewP st) cs
      obtain ⟨fs, hfs, pfs⟩ := hF
      obtain ⟨ps, hps, pps⟩ := hpp.same s5
      have lfs := Paired.len pfs
      have lps := Paired.len pps
      rw [List.length_map] at lfs
      refine ⟨_, rfl, _, rfl, F, pp, _, _, rfl, rfl, hfs, hps, Nat.le_of_lt (small (by omega)), fun q1 nq1 => ?_⟩
      have s6 := same_upd (o := .lst (fs ++ ps)) nq1
      have sC := sB.trans (s5.trans s6)
      have free : ∀ {p : Addr}, (upd H5 q1 (.lst (fs ++ ps))) p = none → H p = none := fun z => sC.free z
      refine ⟨_, rfl, !fs.isEmpty, .inl ⟨fs, .of (s6 _ _ hfs), rfl⟩, ?_⟩
      have hm : (majL (cwR cs st)).length ≤ 12 := by
        unfold majL majR
        have := List.length_filter_le (fun r : Run => decide (lenR (cwR cs st) < 2 * r.2)) (cwR cs st)
        rw [cw_len] at this
        rw [List.length_map]
        omega
      by_cases fe : fs = []
      · have f0 : fewL cs st = [] := by
          rw [fe] at pfs
          cases hz : fewL cs st with
          | nil => rfl
          | cons a b =>
            rw [show ((cs.filter (fewP st)).map fun r => ([.str "few", .int r.2] : List V)) = a :: b from hz] at pfs
            cases pfs
        refine iteN (by rw [fe]; rfl) ⟨_, rfl, p2, _, rfl, (h4.same s5).same s6, by rw [cw_len]; exact l12, fun H7 p7 s7 n7 h7 => ?_⟩
        obtain ⟨ms, hms, pms⟩ := h7
        have lms := Paired.len pms
        refine ⟨q1, p7, _, _, rfl, rfl, s7 _ _ upd_same, hms, Nat.le_of_lt (small (by rw [List.length_append]; omega)), fun p np => ?_⟩
        have s8 := same_upd (o := .lst ((fs ++ ps) ++ ms)) np
        refine q _ p (sC.trans (s7.trans s8)) (sC.free (s7.free np)) ?_
        rw [rs_few0 kn f0]
        have s68 := s6.trans (s7.trans s8)
        exact ⟨_, upd_same, Paired.app (Paired.app (tups_same s68 pfs) (tups_same s68 pps)) (tups_same s8 pms)⟩
      · have ne : (!fs.isEmpty) = true := by
          cases fs with
          | nil => exact absurd rfl fe
          | cons y ys => rfl
        have f1 : fewL cs st ≠ [] := fun z => by
          rw [show ((cs.filter (fewP st)).map fun r => ([.str "few", .int r.2] : List V)) = [] from z] at pfs
          cases pfs
          exact fe rfl
        refine iteP ne ⟨Nat.zero_le _, fun e1 ne1 => ?_⟩
        have s7 := same_upd (o := .lst []) ne1
        refine ⟨q1, e1, _, _, rfl, rfl, s7 _ _ upd_same, upd_same, Nat.le_of_lt (small (by rw [List.length_append, List.length_nil]; omega)), fun p np => ?_⟩
        have s8 := same_upd (o := .lst ((fs ++ ps) ++ [])) np
        refine q _ p (sC.trans (s7.trans s8)) (sC.free (s7.free np)) ?_
        rw [rs_few kn f1]
        have s68 := s6.trans (s7.trans s8)
        exact ⟨_, upd_same, Paired.app (Paired.app (tups_same s68 pfs) (tups_same s68 pps)) .nil⟩
end
end UP

set_option Elab.async false
set_option linter.all false
set_option maxRecDepth 100000
set_option maxHeartbeats 4000000
set_option pp.maxSteps 500
namespace UP
open PySem PySem.Spec PyProof.Rows L2
theorem refs_of {H : Hp} {p : Addr} {l : List (List V)} (h : RefL H p l) : Refs H p l.length := by
  obtain ⟨xs, e, z⟩ := h
  refine ⟨xs, e, Paired.len z, fun x hx => ?_⟩
  obtain ⟨i, hi⟩ := List.getElem?_of_mem hx
  obtain ⟨_, _, t, e, _⟩ := Paired.at z hi
  exact ⟨t, e⟩
theorem rs_len {cs : List Run} {st : Option Run} : (rsR cs st).length = 0 ↔ CanR cs st := List.length_eq_zero_iff.trans rs_nil
section
variable {P : Program} {w : World} {K : PySem.W.Frag} {mg : Str → Option Value} {base : Heap}
/-! reason_against: slots 0:counts 1:state 2:reasons -/
abbrev s_reason_against : Stmt := topS 28
theorem sc_reason_against : FnScope ["counts", "state", "reasons"] ["counts", "state"] (defScope s_reason_against) := ⟨rfl, rfl, rfl, by decide +kernel, rfl, by decide +kernel, by decide +kernel⟩
def sp_reason_against : Sp := fun vs H Q _ => ∃ (v u : V) (cs : List Run) (st : Option Run), vs = [v, u] ∧ RunsG H v cs ∧ CtOk cs ∧ StG H u st ∧ StOk st ∧ (CanR cs st → ∀ H', Same H H' → Q .non H') ∧ ∀ l r, rsR cs st = l :: r → ∀ H' t, Same H H' → H' t = some (.tup l) → Q (.ref t) H'
theorem ok_reason_against (D : Df K mg "reason_against" s_reason_against) (T : Tx mg) (G_checked_counts : Has P w K mg base 5 "checked_counts" ["counts"] sp_checked_counts) (G_checked_state : Has P w K mg base 3 "checked_state" ["state"] sp_checked_state) (G_reasons_in : Has P w K mg base 3 "reasons_in" ["counts", "state"] sp_reasons_in) : Has P w K mg base 6 "reason_against" ["counts", "state"] sp_reason_against := by
  refine has_of D sc_reason_against (fun _ _ _ _ _ _ us hl => match us, hl with | [_, _], _ => rfl) (fun vs H Q E h => ?_) (fun f cdv A outer s H vs Q E hr h => ?_)
  · obtain ⟨_, _, _, _, rfl, _⟩ := h
    rfl
  · obtain ⟨v, u, cs, st, rfl, hR, ok, hu, ks, qY, qN⟩ := h
    refine ⟨_, (pss_cons (ps_set (i := 0) sc_reason_against.nd rfl (by first | exact Or.inl rfl | exact Or.inr rfl) (pe_callH G_checked_counts (hr.mono (by omega)) (by rfl) (pa_cons (pv 0) pa_nil)))
    (pss_cons (ps_set (i := 2) sc_reason_against.nd rfl (by first | exact Or.inl rfl | exact Or.inr rfl) (pe_callH G_reasons_in (hr.mono (by omega)) (by rfl) (pa_cons (pv 0) (pa_cons (pe_callH G_checked_state (hr.mono (by omega)) (by rfl) (pa_cons (pv 1) pa_nil)) pa_nil))))
    (pss_one (ps_ret (pe_ifExp (pt_truth (pv 2) (by intro _; rfl)) (pe_ix ix_list (pv 2) pe_int (fun _ _ => rfl)) pe_non))))), ?_⟩
    refine ⟨_, rfl, v, cs, rfl, hR, ok, fun H1 p1 s1 n1 h1 => ?_⟩
    refine ⟨_, rfl, _, rfl, u, st, rfl, hu.same s1, ks, fun H2 v2 s2 h2 => ?_⟩
    refine ⟨p1, cs, v2, st, rfl, h1.same s2, ok.1, h2, fun H3 p3 s3 f3 r3 => ?_⟩
    have sA := s1.trans (s2.trans s3)
    obtain ⟨xs, hx, px⟩ := r3
    refine ⟨_, rfl, !xs.isEmpty, .inl ⟨xs, .of hx, rfl⟩, ?_⟩
    cases hl : rsR cs st with
    | nil =>
      rw [hl] at px
      cases px
      exact iteN rfl (qY (rs_nil.mp hl) _ sA)
    | cons l r =>
      rw [hl] at px
      cases px with
      | cons h t =>
        obtain ⟨y, rfl, hy⟩ := h
        exact iteP rfl ⟨_, rfl, p3, _, 0, _, rfl, rfl, .of hx, atI_ofR (Int.le_refl _) rfl, qN l r hl _ y sA hy⟩
/-! can_remain: slots 0:counts 1:state -/
abbrev s_can_remain : Stmt := topS 27
theorem sc_can_remain : FnScope ["counts", "state"] ["counts", "state"] (defScope s_can_remain) := ⟨rfl, rfl, rfl, by decide +kernel, rfl, by decide +kernel, by decide +kernel⟩
def sp_can_remain : Sp := fun vs H Q _ => ∃ (v u : V) (cs : List Run) (st : Option Run), vs = [v, u] ∧ RunsG H v cs ∧ CtOk cs ∧ StG H u st ∧ StOk st ∧ (CanR cs st → ∀ H', Same H H' → Q (.bl true) H') ∧ (¬ CanR cs st → ∀ H', Same H H' → Q (.bl false) H')
theorem ok_can_remain (D : Df K mg "can_remain" s_can_remain) (G_reason_against : Has P w K mg base 6 "reason_against" ["counts", "state"] sp_reason_against) : Has P w K mg base 7 "can_remain" ["counts", "state"] sp_can_remain := by
  refine has_of D sc_can_remain (fun _ _ _ _ _ _ us hl => match us, hl with | [_, _], _ => rfl) (fun vs H Q E h => ?_) (fun f cdv A outer s H vs Q E hr h => ?_)
  · obtain ⟨_, _, _, _, rfl, _⟩ := h
    rfl
  · obtain ⟨v, u, cs, st, rfl, hR, ok, hu, ks, qY, qN⟩ := h
    refine ⟨_, (pss_one (ps_ret (pe_cmpR op_isN (pe_callH G_reason_against (hr.mono (by omega)) (by rfl) (pa_cons (pv 0) (pa_cons (pv 1) pa_nil))) pe_non (nomark _)))), ?_⟩
    exact ⟨_, rfl, _, rfl, v, u, cs, st, rfl, hR, ok, hu, ks, (fun c H' s' => ⟨rfl, qY c _ s'⟩), (fun l r hl H' t s' _ => ⟨rfl, qN (fun c => by rw [rs_nil.mpr c] at hl; cases hl) _ s'⟩)⟩
end
end UP

set_option Elab.async false
set_option linter.all false
set_option maxRecDepth 100000
set_option maxHeartbeats 4000000
namespace UP
open PySem PySem.Spec PyProof.Rows L2
/-! ### ranges -/
def ownR (cs : List Run) (k : Str) : Int := lenR (cs.filter fun r => decide (V.str r.1 = V.str k))
def lgR : List Run → Str → Int
  | [], _ => 0
  | r :: t, k => if r.1 = k then lgR t k else if lgR t k < r.2 then r.2 else lgR t k
theorem lg_nn : ∀ (cs : List Run) (k : Str), 0 ≤ lgR cs k
  | [], _ => Int.le_refl _
  | r :: t, k => by
    have := lg_nn t k
    show 0 ≤ if r.1 = k then lgR t k else if lgR t k < r.2 then r.2 else lgR t k
    split
    · exact this
    · split <;> omega
theorem lg_ub : ∀ (cs : List Run) (k : Str), ∀ r ∈ cs, r.1 ≠ k → r.2 ≤ lgR cs k
  | [], _, r, h, _ => by cases h
  | x :: t, k, r, h, n => by
    show r.2 ≤ if x.1 = k then lgR t k else if lgR t k < x.2 then x.2 else lgR t k
    rcases List.mem_cons.mp h with e | e
    · subst e
      rw [if_neg n]
      split <;> omega
    · have := lg_ub t k r e n
      split
      · exact this
      · split <;> omega
theorem lg_mem : ∀ (cs : List Run) (k : Str), lgR cs k = 0 ∨ ∃ r ∈ cs, r.1 ≠ k ∧ r.2 = lgR cs k
  | [], _ => .inl rfl
  | x :: t, k => by
    have ih := lg_mem t k
    have e : lgR (x :: t) k = if x.1 = k then lgR t k else if lgR t k < x.2 then x.2 else lgR t k := rfl
    rw [e]
    have up : (lgR t k = 0 ∨ ∃ r ∈ t, r.1 ≠ k ∧ r.2 = lgR t k) → lgR t k = 0 ∨ ∃ r ∈ x :: t, r.1 ≠ k ∧ r.2 = lgR t k := fun h => h.elim .inl fun ⟨r, hr, h⟩ => .inr ⟨r, List.mem_cons_of_mem _ hr, h⟩
    by_cases c : x.1 = k
    · rw [if_pos c]
      exact up ih
    · rw [if_neg c]
      by_cases d : lgR t k < x.2
      · rw [if_pos d]
        exact .inr ⟨x, List.mem_cons_self .., c, rfl⟩
      · rw [if_neg d]
        exact up ih
def leR (cs : List Run) (k : Str) : Int := if 2 - lenR cs % 2 > 2 * ownR cs k - lenR cs then 2 - lenR cs % 2 else 2 * ownR cs k - lenR cs
def moR (cs : List Run) (k : Str) : Int := if lenR cs - 2 * lgR cs k < ownR cs k - (lenR cs - ownR cs k) % 2 then lenR cs - 2 * lgR cs k else ownR cs k - (lenR cs - ownR cs k) % 2
def rgO (cs : List Run) (k : Str) : Option (Int × Int) := if leR cs k ≤ moR cs k then some (leR cs k, moR cs k) else none
/-! ### one kind among them -/
theorem asc_lt : ∀ {cs : List Run}, Asc cs → ∀ (i j : Nat) (x y : Run), i < j → cs[i]? = some x → cs[j]? = some y → x.1.cps.toList < y.1.cps.toList := by
  intro cs h i j x y lt hx hy
  induction j generalizing y with
  | zero => omega
  | succ j ih =>
    have hj : j < cs.length := by
      have := (List.getElem?_eq_some_iff.mp hy).1
      omega
    by_cases e : i = j
    · subst e
      exact h i x y hx hy
    · have h1 := ih (cs[j]) (by omega) (List.getElem?_eq_getElem hj)
      exact List.lt_trans h1 (h j _ y (List.getElem?_eq_getElem hj) hy)
theorem asc_ne {cs : List Run} (h : Asc cs) {i j : Nat} {x y : Run} (ne : i ≠ j) (hx : cs[i]? = some x) (hy : cs[j]? = some y) : x.1 ≠ y.1 := by
  intro e
  rcases Nat.lt_or_gt_of_ne ne with lt | lt
  · have := asc_lt h i j x y lt hx hy
    rw [e] at this
    exact List.lt_irrefl _ this
  · have := asc_lt h j i y x lt hy hx
    rw [e] at this
    exact List.lt_irrefl _ this
/-- the counts around one kind -/
structure Split (cs : List Run) (k : Str) (pre : List Run) (c : Int) (post : List Run) : Prop where
  eq : cs = pre ++ (k, c) :: post
  pre : ∀ r ∈ pre, r.1 ≠ k
  post : ∀ r ∈ post, r.1 ≠ k
theorem split_of {cs : List Run} (h : Asc cs) {r : Run} (hr : r ∈ cs) : ∃ pre post, Split cs r.1 pre r.2 post := by
  obtain ⟨i, hi, e⟩ := List.mem_iff_getElem.mp hr
  have hx : cs[i]? = some r := by rw [List.getElem?_eq_getElem hi, e]
  refine ⟨cs.take i, cs.drop (i + 1), ?_, fun x hx2 => ?_, fun x hx2 => ?_⟩
  · have := List.take_append_drop i cs
    rw [List.drop_eq_getElem_cons hi, e] at this
    exact this.symm
  · obtain ⟨j, hj, ej⟩ := List.mem_iff_getElem.mp hx2
    rw [List.length_take] at hj
    have : cs[j]? = some x := by
      rw [← ej, List.getElem?_eq_getElem (by omega), List.getElem_take]
    exact asc_ne h (by omega) this hx
  · obtain ⟨j, hj, ej⟩ := List.mem_iff_getElem.mp hx2
    rw [List.length_drop] at hj
    have : cs[i + 1 + j]? = some x := by
      rw [← ej, List.getElem?_eq_getElem (by omega), List.getElem_drop]
    exact asc_ne h (by omega) this hx
theorem own_none : ∀ {l : List Run} {k : Str}, (∀ r ∈ l, r.1 ≠ k) → l.filter (fun r => decide (V.str r.1 = V.str k)) = [] := by
  intro l k h
  rw [List.filter_eq_nil_iff]
  intro r hr z
  exact h r hr (V.str.inj (of_decide_eq_true z))
theorem Split.own {cs : List Run} {k : Str} {pre post : List Run} {c : Int} (h : Split cs k pre c post) : ownR cs k = c := by
  unfold ownR
  rw [h.eq, List.filter_append, List.filter_cons, if_pos (decide_eq_true rfl), own_none h.pre, own_none h.post, List.nil_append, lenR_cons, lenR_nil]
  show c + 0 = c
  omega
theorem Split.tot {cs : List Run} {k : Str} {pre post : List Run} {c : Int} (h : Split cs k pre c post) : lenR cs = lenR pre + c + lenR post := by
  rw [h.eq, lenR_app, lenR_cons]
  show lenR pre + (c + lenR post) = _
  omega
theorem cw_none {l : List Run} {k : Str} {n : Int} (h : ∀ r ∈ l, r.1 ≠ k) : cwR l (some (k, n)) = l := by
  unfold cwR
  have : ∀ r ∈ l, (r.1, if kdV (some (k, n)) = .str r.1 then r.2 - numR (some (k, n)) else r.2) = r := fun r hr => by
    rw [if_neg (show ¬ kdV (some (k, n)) = .str r.1 from fun z => h r hr (V.str.inj z).symm)]
  rw [List.map_congr_left this, List.map_id']
theorem Split.cw {cs : List Run} {k : Str} {pre post : List Run} {c n : Int} (h : Split cs k pre c post) : cwR cs (some (k, n)) = pre ++ (k, c - n) :: post := by
  have e : cwR cs (some (k, n)) = cwR pre (some (k, n)) ++ (k, if kdV (some (k, n)) = .str k then c - numR (some (k, n)) else c) :: cwR post (some (k, n)) := by
    rw [h.eq]
    unfold cwR
    rw [List.map_append, List.map_cons]
  rw [e, cw_none h.pre, cw_none h.post, if_pos (show kdV (some (k, n)) = .str k from rfl)]
  rfl
theorem Split.lenc {cs : List Run} {k : Str} {pre post : List Run} {c n : Int} (h : Split cs k pre c post) : lenR (cwR cs (some (k, n))) = lenR cs - n := by
  rw [h.cw, h.tot, lenR_app, lenR_cons]
  show lenR pre + (c - n + lenR post) = _
  omega
/-- which numbers of a kind can remain -/
theorem Split.can {cs : List Run} {k : Str} {pre post : List Run} {c n : Int} (h : Split cs k pre c post) (n1 : 1 ≤ n) : CanR cs (some (k, n)) ↔ n ≤ c ∧ (lenR cs - n) % 2 = 0 ∧ 2 * (c - n) ≤ lenR cs - n ∧ ∀ r ∈ cs, r.1 ≠ k → 2 * r.2 ≤ lenR cs - n := by
  unfold CanR
  rw [h.lenc]
  constructor
  · rintro ⟨_, h2, h3, h4⟩
    refine ⟨h2 (k, c) (by rw [h.eq]; exact List.mem_append.mpr (.inr (List.mem_cons_self ..))) rfl, h3, ?_, fun r hr rk => ?_⟩
    · have := h4 (k, c - n) (by rw [h.cw]; exact List.mem_append.mpr (.inr (List.mem_cons_self ..)))
      exact this
    · refine h4 r ?_
      rw [h.cw]
      rw [h.eq] at hr
      rcases List.mem_append.mp hr with z | z
      · exact List.mem_append.mpr (.inl z)
      · rcases List.mem_cons.mp z with z | z
        · rw [z] at rk
          exact absurd rfl rk
        · exact List.mem_append.mpr (.inr (List.mem_cons_of_mem _ z))
  · rintro ⟨h1, h2, h3, h4⟩
    refine ⟨fun r e => ?_, fun r hr e => ?_, h2, fun r hr => ?_⟩
    · cases e
      rw [h.eq, List.map_append, List.map_cons]
      exact List.mem_append.mpr (.inr (List.mem_cons_self ..))
    · have e : k = r.1 := V.str.inj e
      show n ≤ r.2
      rw [h.eq] at hr
      rcases List.mem_append.mp hr with z | z
      · exact absurd e.symm (h.pre r z)
      · rcases List.mem_cons.mp z with z | z
        · rw [z]
          exact h1
        · exact absurd e.symm (h.post r z)
    · rw [h.cw] at hr
      have inr : ∀ r, r ∈ pre ∨ r ∈ post → r ∈ cs := fun r z => by
        rw [h.eq]
        exact z.elim (fun z => List.mem_append.mpr (.inl z)) (fun z => List.mem_append.mpr (.inr (List.mem_cons_of_mem _ z)))
      rcases List.mem_append.mp hr with z | z
      · exact h4 r (inr r (.inl z)) (h.pre r z)
      · rcases List.mem_cons.mp z with z | z
        · rw [z]
          exact h3
        · exact h4 r (inr r (.inr z)) (h.post r z)
theorem len_ge {l : List Run} (h : ∀ r ∈ l, 1 ≤ r.2) : 0 ≤ lenR l := lenR_nn h
/-- the range of a kind says which of its numbers can remain -/
theorem Split.range {cs : List Run} {k : Str} {pre post : List Run} {c n : Int} (h : Split cs k pre c post) (pos : ∀ r ∈ cs, 1 ≤ r.2) (n1 : 1 ≤ n) : CanR cs (some (k, n)) ↔ leR cs k ≤ n ∧ n ≤ moR cs k ∧ (lenR cs - n) % 2 = 0 := by
  rw [h.can n1]
  unfold leR moR
  rw [h.own]
  have lg : (∀ r ∈ cs, r.1 ≠ k → 2 * r.2 ≤ lenR cs - n) ↔ (2 * lgR cs k ≤ lenR cs - n ∨ (lgR cs k = 0 ∧ ∀ r ∈ cs, r.1 ≠ k → 2 * r.2 ≤ lenR cs - n)) := by
    constructor
    · intro z
      rcases lg_mem cs k with e | ⟨r, hr, rk, e⟩
      · exact .inr ⟨e, z⟩
      · have := z r hr rk
        exact .inl (by omega)
    · intro z
      rcases z with z | z
      · intro r hr rk
        have := lg_ub cs k r hr rk
        omega
      · exact z.2
  have tp : 0 ≤ lenR pre + lenR post := by
    have h1 := len_ge (l := pre) fun r hr => pos r (by rw [h.eq]; exact List.mem_append.mpr (.inl hr))
    have h2 := len_ge (l := post) fun r hr => pos r (by rw [h.eq]; exact List.mem_append.mpr (.inr (List.mem_cons_of_mem _ hr)))
    omega
  have ht := h.tot
  constructor
  · rintro ⟨h1, h2, h3, h4⟩
    have h5 : 2 * lgR cs k ≤ lenR cs - n := by
      rcases lg.mp h4 with z | ⟨z, _⟩
      · exact z
      · omega
    refine ⟨?_, ?_, h2⟩
    · split <;> omega
    · split <;> omega
  · rintro ⟨h1, h2, h3⟩
    have h5 : 2 * lgR cs k ≤ lenR cs - n := by
      split at h2 <;> omega
    refine ⟨?_, h3, ?_, lg.mpr (.inl h5)⟩
    · split at h2 <;> omega
    · split at h1 <;> omega
theorem le_pos {cs : List Run} {k : Str} : 1 ≤ leR cs k := by
  unfold leR
  split <;> omega
theorem le_par {cs : List Run} {k : Str} : (lenR cs - leR cs k) % 2 = 0 := by
  unfold leR
  split <;> omega
theorem mo_par {cs : List Run} {k : Str} : (lenR cs - moR cs k) % 2 = 0 := by
  unfold moR
  split <;> omega
section
variable {P : Program} {w : World} {K : PySem.W.Frag} {mg : Str → Option Value} {base : Heap}
end
end UP

set_option Elab.async false
set_option linter.all false
set_option maxRecDepth 100000
set_option maxHeartbeats 4000000
namespace UP
open PySem PySem.Spec PyProof.Rows L2
open Classical in
noncomputable def c1R (cs : List Run) : Int := if CanR cs none then 1 else 0
theorem c1_yes {cs : List Run} (h : CanR cs none) : c1R cs = 1 := by
  unfold c1R
  rw [if_pos h]
theorem c1_no {cs : List Run} (h : ¬ CanR cs none) : c1R cs = 0 := by
  unfold c1R
  rw [if_neg h]
def cntR (cs : List Run) (k : Str) : Int := match rgO cs k with
  | none => 0
  | some x => (x.2 - x.1) / 2 + 1
theorem asc_of {ks : List Str} (l1 : ks.length ≤ 12) (ok : ∀ k ∈ ks, KindOk k) (nd : ks.Nodup ∧ sortedS ks = true) : ∀ (i : Nat) (x y : Str), ks[i]? = some x → ks[i + 1]? = some y → x.cps.toList < y.cps.toList := by
  intro i x y hx hy
  have : 0 < ks.length := by
    have := (List.getElem?_eq_some_iff.mp hx).1
    omega
  exact (ks_of this l1 ok nd).2.2.2 i x y hx hy
section
variable {P : Program} {w : World} {K : PySem.W.Frag} {mg : Str → Option Value} {base : Heap}
/-! _law_counts: slots 0:reel 1:many 2:most 3:found 4:kind -/
abbrev s_law_counts : Stmt := topS 36
theorem sc_law_counts : FnScope ["reel", "many", "most", "found", "kind"] ["reel", "many", "most"] (defScope s_law_counts) := ⟨rfl, rfl, rfl, by decide +kernel, rfl, by decide +kernel, by decide +kernel⟩
def sp_law_counts : Sp := fun vs H Q _ => ∃ (p : Addr) (m g : Int), vs = [.ref p, .int m, .int g] ∧ Reel H p ∧ 0 ≤ m ∧ m ≤ 12 ∧ 1 ≤ g ∧ g ≤ 1000000000000000000000000000000 ∧
  ∀ (H' : Hp) (L : Addr) (cs : List Run), RB p H H' → Reel H' p → H L = none → Runs H' L cs → CtOk cs → (∀ r ∈ cs, r.2 ≤ g) → (∀ r ∈ cs, r.1 ≠ ("other" : Str)) → Q (.ref L) H'
theorem ok_law_counts (D : Df K mg "_law_counts" s_law_counts) (T : Tx mg) (G_law_draw : Has P w K mg base 1 "_law_draw" ["reel", "many"] sp_law_draw) (G_law_names : Has P w K mg base 2 "_law_names" ["reel", "many"] sp_law_names) : Has P w K mg base 3 "_law_counts" ["reel", "many", "most"] sp_law_counts := by
  refine has_of D sc_law_counts (fun _ _ _ _ _ _ us hl => match us, hl with | [_, _, _], _ => rfl) (fun vs H Q E h => ?_) (fun f cdv A outer s H vs Q E hr h => ?_)
  · obtain ⟨_, _, _, rfl, _⟩ := h
    rfl
  · obtain ⟨p, m, g, rfl, z, m0, m1, g1, g2, q⟩ := h
    refine ⟨_, (pss_cons (ps_set (i := 3) sc_law_counts.nd rfl (by first | exact Or.inl rfl | exact Or.inr rfl) (pe_lst pa_nil))
    (pss_cons (ps_for PassesOwn.never rfl (pi_list (pe_callH G_law_names (hr.mono (by omega)) (by rfl) (pa_cons (pv 0) (pa_cons (pe_callH G_law_draw (hr.mono (by omega)) (by rfl) (pa_cons (pv 0) (pa_cons (pe_op op_add (pv 1) pe_int) pa_nil))) pa_nil)))) (pg_name (i := 4) sc_law_counts.nd rfl (by first | exact Or.inl rfl | exact Or.inr rfl))
      (pss_one (ps_expr (pe_bm PySem.F.plainAttrs_list PySem.F.slot_list_append PySem.F.type_list_append mt_append (pv 3) (pa_cons (pe_tup (pa_cons (pv 4) (pa_cons (pe_op op_add pe_int (pe_callH G_law_draw (hr.mono (by omega)) (by rfl) (pa_cons (pv 0) (pa_cons (pv 2) pa_nil)))) pa_nil))) pa_nil)))))
    (pss_one (ps_ret (pv 3))))), ?_⟩
    refine ⟨Nat.zero_le _, fun L nL => ?_⟩
    have nLp := z.ne nL
    have sL := same_upd (o := .lst []) nL
    have z0 := z.same sL
    refine ⟨_, rfl, _, rfl, _, rfl, _, _, rfl, rfl, p, _, rfl, z0, (by show 1 ≤ m + 1; omega), (wide8 (by show 0 ≤ m + 1; omega) (by show m + 1 ≤ _; omega)), fun H1 r b1 z1 r0 r1 => ?_⟩
    have r1 : r < m + 1 := r1
    refine ⟨p, r, rfl, z1, r0, by omega, fun H2 l ks b2 z2 nl hl ol lk okk nd => ?_⟩
    have asc := asc_of (ks := ks) (by omega) okk ⟨nd.1, nd.2.1⟩
    have B2 : RB p H H2 := (RB.of sL).trans (b1.trans b2)
    have o0 : Off (upd H L (.lst [])) p L := (z.off nL).upd nLp
    have o1 := b1.off _ _ upd_same o0
    have hL1 := b1.but _ _ nLp upd_same
    have o2 := b2.off _ _ hL1 o1
    have hL2 := b2.but _ _ nLp hL1
    have nlL : l ≠ L := fun e => by
      rw [e] at nl
      rw [nl] at hL1
      cases hL1
    refine ⟨l, rfl, ⟨_, .of hl⟩, for_list (K := K) (a := l) (xs := ks.map V.str) (fun i σ H' => ∃ y4 cs, σ = [some (.ref p), some (.int m), some (.int g), some (.ref L), y4] ∧ RB p H H' ∧ Reel H' p ∧ Off H' p L ∧ H' l = some (.lst (ks.map V.str)) ∧ Runs H' L cs ∧ cs.map (·.1) = ks.take i ∧ ∀ r ∈ cs, 1 ≤ r.2 ∧ r.2 ≤ g)
      ⟨none, [], rfl, B2, z2, o2, hl, ⟨[], hL2, .nil⟩, rfl, (fun r h => by cases h)⟩ (fun i σ H' _ hP => ?_) (fun i x σ H4 ex hP => ?_) (fun σ H4 hP => ?_)⟩
    · obtain ⟨_, _, _, _, _, _, h, _⟩ := hP
      exact .of h
    · obtain ⟨y4, cs, rfl, b4, z4, o4, hl4, ⟨xs, hx, hp⟩, ek, okc⟩ := hP
      obtain ⟨k, e1, rfl⟩ := str_at ex
      have hi : i < ks.length := (List.getElem?_eq_some_iff.mp e1).1
      have lx : xs.length = cs.length := Paired.len hp
      have lc := congrArg List.length ek
      rw [List.length_map, List.length_take] at lc
      refine ⟨_, rfl, .inl ⟨rfl, _, SqL.of hx⟩, _, rfl, _, rfl, _, rfl, p, g, rfl, z4, g1, wide8 (by omega) (by omega), fun H5 r5 b5 z5 r50 r51 => ⟨_, _, rfl, rfl, (by show 2 ≤ sizeLine; decide), fun n nn => ?_⟩⟩
      have hx5 := b5.but _ _ nLp hx
      have hp5 : Paired (RunV H5) xs cs := Paired.imp (fun _ _ h => b5.run z4 h) hp
      have o5 := b5.off _ _ hx o4
      have sn := same_upd (o := .tup [.str k, .int (1 + r5)]) nn
      refine ⟨L, _, _, rfl, rfl, sn _ _ hx5, small (by omega), ?_⟩
      refine ⟨_, cs ++ [(k, 1 + r5)], rfl, ((b4.trans b5).trans (RB.of sn)).grow nL (o5.same sn), (z5.same sn).upd (o5.same sn), (o5.same sn).upd nLp, ?_, ⟨_, upd_same, Paired.app (prs_grow (sn _ _ hx5) (prs_same sn hp5)) (.cons (RunV.grow (sn _ _ hx5) ⟨n, rfl, upd_same⟩) .nil)⟩, ?_, ?_⟩
      · rw [upd_ne nlL]
        exact sn _ _ (b5.strs z4 hl4)
      · rw [List.map_append, ek, take_snoc e1]
        rfl
      · intro r hr
        rcases List.mem_append.mp hr with h | h
        · exact okc r h
        · rw [List.mem_singleton.mp h]
          show 1 ≤ 1 + r5 ∧ 1 + r5 ≤ g
          omega
    · obtain ⟨y4, cs, rfl, b4, z4, o4, hl4, hR, ek, okc⟩ := hP
      rw [List.length_map, List.take_length] at ek
      have lc := congrArg List.length ek
      rw [List.length_map] at lc
      have mem : ∀ r ∈ cs, r.1 ∈ ks := fun r hr => by
        rw [← ek]
        exact List.mem_map.mpr ⟨r, hr, rfl⟩
      refine ⟨_, rfl, q H4 L cs b4 z4 nL hR ⟨by omega, fun r hr => ⟨okk _ (mem r hr), (okc r hr).1, by have := (okc r hr).2; omega⟩, fun i x y hx hy => ?_⟩ (fun r hr => (okc r hr).2) (fun r hr e => nd.2.2 (by rw [← e]; exact mem r hr))⟩
      refine asc i x.1 y.1 ?_ ?_
      · rw [← ek, List.getElem?_map, hx]
        rfl
      · rw [← ek, List.getElem?_map, hy]
        rfl
end
end UP

set_option Elab.async false
set_option linter.all false
set_option maxRecDepth 100000
set_option maxHeartbeats 4000000
set_option pp.maxSteps 600
namespace UP
open PySem PySem.Spec PyProof.Rows L2
theorem call_isiK {X : Cx} {K : PySem.W.Frag} (h : X.K = K) : CallR X (.builtin "isinstance") (rIsi K) := h ▸ call_isi
/-! ### flat tuples -/
def FlB (y : V) : Prop := (∃ z, y = .str z ∧ KindOk z) ∨ ∃ n : Int, y = .int n ∧ n.natAbs < 10 ^ 60
def FlN (ys : List V) : Prop := ys.length ≤ 5 ∧ ∀ y ∈ ys, FlB y
def dFl : V → PyData
  | .str z => .str z
  | .int n => .int n
  | _ => .none
theorem nice_fl {y : V} (h : FlB y) : Nice 201 0 (dFl y) := by
  rcases h with ⟨z, rfl, k⟩ | ⟨n, rfl, b⟩
  · exact (nice_str k).mono (by decide) (Nat.le_refl _)
  · exact nice_int b
theorem dp_fls {K : PySem.W.Frag} {H : Hp} : ∀ {ys : List V}, (∀ y ∈ ys, FlB y) → DpAll K H ys (ys.map dFl)
  | [], _ => .nil
  | y :: t, h => by
    rcases h y (List.mem_cons_self ..) with ⟨z, rfl, _⟩ | ⟨n, rfl, _⟩
    · exact .cons (.str _) (dp_fls fun y hy => h y (List.mem_cons_of_mem _ hy))
    · exact .cons (.int _) (dp_fls fun y hy => h y (List.mem_cons_of_mem _ hy))
theorem eqv_fl {x y : V} (hx : FlB x) (hy : FlB y) : PyData.eqv (dFl x) (dFl y) = decide (x = y) := by
  rcases hx with ⟨z, rfl, _⟩ | ⟨n, rfl, _⟩ <;> rcases hy with ⟨z', rfl, _⟩ | ⟨n', rfl, _⟩ <;> rw [Bool.eq_iff_iff] <;> simp [dFl, PyData.eqv]
theorem eqv_flA : ∀ {xs ys : List V}, (∀ y ∈ xs, FlB y) → (∀ y ∈ ys, FlB y) → PyData.eqvAll (xs.map dFl) (ys.map dFl) = decide (xs = ys)
  | [], [], _, _ => by simp [PyData.eqvAll]
  | [], y :: t, _, _ => by simp [PyData.eqvAll]
  | x :: s, [], _, _ => by simp [PyData.eqvAll]
  | x :: s, y :: t, hx, hy => by
    have ih := eqv_flA (xs := s) (ys := t) (fun y h => hx y (List.mem_cons_of_mem _ h)) (fun z h => hy z (List.mem_cons_of_mem _ h))
    rw [List.map_cons, List.map_cons, PyData.eqvAll, ih, eqv_fl (hx x (List.mem_cons_self ..)) (hy y (List.mem_cons_self ..))]
    simp
theorem eqv_flT {xs ys : List V} (hx : ∀ y ∈ xs, FlB y) (hy : ∀ y ∈ ys, FlB y) : PyData.eqv (.tuple (xs.map dFl)) (.tuple (ys.map dFl)) = decide (xs = ys) := by
  rw [PyData.eqv, eqv_flA hx hy]
theorem nice_flT {ys : List V} (h : FlN ys) : Nice 1010 1 (.tuple (ys.map dFl)) := by
  refine (nice_tup (w := 201) (n := 0) (ds := ys.map dFl) fun d hd => ?_).mono (by rw [List.length_map]; have := h.1; omega) (Nat.le_refl _)
  obtain ⟨y, hy, rfl⟩ := List.mem_map.mp hd
  exact nice_fl (h.2 y hy)
theorem any_fl {rows : List (List V)} {ys : List V} (hr : ∀ r ∈ rows, FlN r) (hy : FlN ys) : ((rows.map fun r => PyData.tuple (r.map dFl)).any fun z => PyData.eqv z (.tuple (ys.map dFl))) = decide (ys ∈ rows) := by
  rw [List.any_map, Bool.eq_iff_iff, List.any_eq_true, decide_eq_true_iff]
  constructor
  · rintro ⟨r, hm, h⟩
    have h : PyData.eqv (.tuple (r.map dFl)) (.tuple (ys.map dFl)) = true := h
    rw [eqv_flT (hr r hm).2 hy.2] at h
    exact of_decide_eq_true h ▸ hm
  · intro h
    exact ⟨ys, h, by show PyData.eqv (.tuple (ys.map dFl)) (.tuple (ys.map dFl)) = true; rw [eqv_flT hy.2 hy.2]; exact decide_eq_true rfl⟩
theorem dp_flR {K : PySem.W.Frag} {H : Hp} : ∀ {refs : List V} {rows : List (List V)}, Paired (TupV H) refs rows → (∀ r ∈ rows, FlN r) → DpAll K H refs (rows.map fun r => .tuple (r.map dFl))
  | _, _, .nil, _ => .nil
  | _, _, .cons h t, ok => by
    obtain ⟨u, rfl, hu⟩ := h
    exact .cons (.tup (.of hu) (dp_fls (ok _ (List.mem_cons_self ..)).2)) (dp_flR t fun r hr => ok r (List.mem_cons_of_mem _ hr))
theorem shaped_fl {ys : List V} (h : FlN ys) : SeqAt.shaped (.tuple (ys.map dFl)) = true := ((nice_flT h).fits (by decide) (by decide)).2.1
theorem shaped_flR {rows : List (List V)} (ok : ∀ r ∈ rows, FlN r) (l : rows.length ≤ 30) : SeqAt.shaped (.list (rows.map fun r => .tuple (r.map dFl))) = true := by
  refine (Nice.fits (nice_list (w := 1010) (n := 1) (ds := rows.map fun r => PyData.tuple (r.map dFl)) fun d hd => ?_) (by rw [List.length_map]; omega) (by decide)).2.1
  obtain ⟨r, hr, rfl⟩ := List.mem_map.mp hd
  exact nice_flT (ok r hr)
/-! ### the reasons are flat, short and few -/
def StB (st : Option Run) : Prop := ∀ r, st = some r → KindOk r.1 ∧ 1 ≤ r.2 ∧ r.2 ≤ 10 ^ 40
theorem len_bd : ∀ {l : List Run} {m : Int}, (∀ r ∈ l, r.2.natAbs ≤ m.toNat) → (lenR l).natAbs ≤ l.length * m.toNat
  | [], _, _ => Nat.zero_le _
  | r :: t, m, h => by
    have ih := len_bd (l := t) (m := m) fun x hx => h x (List.mem_cons_of_mem _ hx)
    have h1 := h r (List.mem_cons_self ..)
    have e : lenR (r :: t) = r.2 + lenR t := rfl
    rw [e, List.length_cons, Nat.succ_mul]
    omega
theorem cw_bd {cs : List Run} {st : Option Run} (ok : CtOk cs) (sb : StB st) : ∀ r ∈ cwR cs st, KindOk r.1 ∧ r.2.natAbs ≤ (10 ^ 41 : Int).toNat := by
  intro r hr
  unfold cwR at hr
  obtain ⟨x, hx, rfl⟩ := List.mem_map.mp hr
  obtain ⟨k, a, b⟩ := ok.2.1 x hx
  refine ⟨k, ?_⟩
  have e : (10 ^ 41 : Int).toNat = 10 ^ 41 := by decide +kernel
  rw [e]
  show (if kdV st = .str x.1 then x.2 - numR st else x.2).natAbs ≤ _
  have hn : 0 ≤ numR st ∧ numR st ≤ 10 ^ 40 := by
    cases st with
    | none => exact ⟨Int.le_refl _, by decide +kernel⟩
    | some r => exact ⟨by have := (sb r rfl).2.1; show 0 ≤ r.2; omega, (sb r rfl).2.2⟩
  split <;> omega
theorem flB_str {z : Str} (h : KindOk z) : FlB (.str z) := .inl ⟨z, rfl, h⟩
theorem flB_int {n : Int} (h : n.natAbs < 10 ^ 60) : FlB (.int n) := .inr ⟨n, rfl, h⟩
theorem flN2 {a b : V} (h1 : FlB a) (h2 : FlB b) : FlN [a, b] := ⟨(by show 2 ≤ 5; decide), fun y hy => by
  simp only [List.mem_cons, List.not_mem_nil, or_false] at hy
  rcases hy with e | e
  · rw [e]; exact h1
  · rw [e]; exact h2⟩
theorem flN4 {a b c d : V} (h1 : FlB a) (h2 : FlB b) (h3 : FlB c) (h4 : FlB d) : FlN [a, b, c, d] := ⟨(by show 4 ≤ 5; decide), fun y hy => by
  simp only [List.mem_cons, List.not_mem_nil, or_false] at hy
  rcases hy with e | e | e | e
  · rw [e]; exact h1
  · rw [e]; exact h2
  · rw [e]; exact h3
  · rw [e]; exact h4⟩
theorem rs_fl {cs : List Run} {st : Option Run} (ok : CtOk cs) (sb : StB st) : ∀ ys ∈ rsR cs st, FlN ys := by
  have cb := cw_bd ok sb
  have lb : (lenR (cwR cs st)).natAbs < 10 ^ 60 := by
    have := len_bd (m := 10 ^ 41) fun r hr => (cb r hr).2
    rw [cw_len, show (10 ^ 41 : Int).toNat = 10 ^ 41 by decide +kernel] at this
    have l12 := ok.1
    refine Nat.lt_of_le_of_lt this (Nat.lt_of_le_of_lt (Nat.mul_le_mul_right _ l12) (by decide +kernel))
  have i60 : ∀ {n : Int}, n.natAbs ≤ (10 ^ 41 : Int).toNat → n.natAbs < 10 ^ 60 := fun h => Nat.lt_of_le_of_lt h (by decide +kernel)
  have few : ∀ ys ∈ fewL cs st, FlN ys := fun ys h => by
    obtain ⟨r, hr, rfl⟩ := List.mem_map.mp h
    have := (ok.2.1 r (List.mem_filter.mp hr).1).2
    exact flN2 (flB_str (by decide +kernel)) (flB_int (by omega))
  have par : ∀ ys ∈ parL cs st, FlN ys := fun ys h => by
    unfold parL at h
    split at h
    · rw [List.mem_singleton.mp h]
      exact flN2 (flB_str (by decide +kernel)) (flB_int lb)
    · cases h
  have maj : ∀ ys ∈ majL (cwR cs st), FlN ys := fun ys h => by
    obtain ⟨r, hr, rfl⟩ := List.mem_map.mp h
    have hr := cb r (List.mem_filter.mp hr).1
    exact flN4 (flB_str (by decide +kernel)) (flB_str hr.1) (flB_int (i60 hr.2)) (flB_int lb)
  intro ys h
  by_cases kn : knR cs st
  · rw [rs_kn kn] at h
    unfold genL at h
    rcases List.mem_append.mp h with h | h
    · rcases List.mem_append.mp h with h | h
      · exact few ys h
      · exact par ys h
    · split at h
      · exact maj ys h
      · cases h
  · cases st with
    | none => exact absurd (fun r h => by cases h) kn
    | some r =>
      rw [rs_unk (fun z => kn fun r' e => by cases e; exact z)] at h
      rw [List.mem_singleton.mp h]
      exact flN2 (flB_str (by decide +kernel)) (flB_str (sb r rfl).1)
theorem rs_len30 {cs : List Run} {st : Option Run} (ok : CtOk cs) : (rsR cs st).length ≤ 30 := by
  have l12 := ok.1
  by_cases kn : knR cs st
  · rw [rs_kn kn]
    unfold genL
    have l1 : (fewL cs st).length ≤ 12 := by
      unfold fewL
      rw [List.length_map]
      exact Nat.le_trans (List.length_filter_le _ _) l12
    have l2 : (parL cs st).length ≤ 1 := by
      unfold parL
      split
      · exact Nat.le_refl _
      · exact Nat.zero_le _
    have l3 : (if fewL cs st = [] then majL (cwR cs st) else []).length ≤ 12 := by
      split
      · unfold majL majR
        rw [List.length_map]
        refine Nat.le_trans (List.length_filter_le _ _) ?_
        rw [cw_len]
        exact l12
      · exact Nat.zero_le _
    rw [List.length_append, List.length_append]
    omega
  · unfold rsR
    rw [if_neg kn]
    show 1 ≤ 30
    decide
/-- no reason has three parts -/
theorem rs_three {cs : List Run} {st : Option Run} : ∀ ys ∈ rsR cs st, ys.length = 2 ∨ ys.length = 4 := by
  intro ys h
  by_cases kn : knR cs st
  · rw [rs_kn kn] at h
    unfold genL at h
    rcases List.mem_append.mp h with h | h
    · rcases List.mem_append.mp h with h | h
      · obtain ⟨r, _, rfl⟩ := List.mem_map.mp h
        exact .inl rfl
      · unfold parL at h
        split at h
        · rw [List.mem_singleton.mp h]
          exact .inl rfl
        · cases h
    · split at h
      · obtain ⟨r, _, rfl⟩ := List.mem_map.mp h
        exact .inr rfl
      · cases h
  · unfold rsR at h
    rw [if_neg kn] at h
    rw [List.mem_singleton.mp h]
    exact .inl rfl
end UP

set_option Elab.async false
set_option linter.all false
set_option maxRecDepth 100000
set_option maxHeartbeats 4000000
set_option pp.maxSteps 600
namespace UP
open PySem PySem.Spec PyProof.Rows L2
theorem seq_gen {s rest : TS} {D : Ends} {σ : L2.St} {H : Hp} (Ok : L2.St → Hp → Prop) (h : ∀ R : L2.St → Hp → Prop, (∀ σ' H', Ok σ' H' → R σ' H') → s { D with nx := R } σ H) (k : ∀ σ' H', Ok σ' H' → rest D σ' H') : tSeq s rest D σ H := h (rest D) k
theorem kinds_nd {cs : List Run} (h : Asc cs) : (cs.map (·.1)).Nodup := by
  refine List.pairwise_map.mpr (List.pairwise_iff_getElem.mpr fun i j hi hj hij => ?_)
  exact asc_ne h (by omega) (List.getElem?_eq_getElem hi) (List.getElem?_eq_getElem hj)
def enK (r : Run) : L2.Key × V := (Sum.inr r.1, .int r.2)
theorem val_get : ∀ {cs : List Run}, (cs.map (·.1)).Nodup → ∀ {r : Run}, r ∈ cs → valV (cs.map enK) (Sum.inr r.1) = some (.int r.2)
  | x :: t, nd, r, hr => by
    have nd := List.nodup_cons.mp (show (x.1 :: t.map (·.1)).Nodup from nd)
    rw [List.map_cons]
    rcases List.mem_cons.mp hr with e | e
    · rw [e]
      exact valV_pos rfl
    · rw [valV_neg (fun z => nd.1 (by
        have z : x.1 = r.1 := Sum.inr.inj z
        rw [z]
        exact List.mem_map.mpr ⟨r, e, rfl⟩))]
      exact val_get nd.2 e
theorem val_no : ∀ {cs : List Run} {k : Str}, k ∉ cs.map (·.1) → valV (cs.map enK) (Sum.inr k) = none
  | [], _, _ => rfl
  | x :: t, k, h => by
    have h1 : ¬ x.1 = k := fun z => h (by rw [← z]; exact List.mem_cons_self ..)
    rw [List.map_cons, valV_neg (fun z => h1 (Sum.inr.inj z))]
    exact val_no fun z => h (List.mem_cons_of_mem _ z)
theorem merge_en {cs : List Run} (h : Asc cs) : mergeK [] (cs.map enK) = cs.map enK := by
  refine (merge_id _ [] ?_).trans (List.nil_append _)
  rw [List.nil_append, List.map_map]
  have e : cs.map ((fun kv : L2.Key × V => kv.1) ∘ enK) = (cs.map (·.1)).map Sum.inr := by rw [List.map_map]; rfl
  rw [e]
  exact List.pairwise_map.mpr ((kinds_nd h).imp fun h z => h (Sum.inr.inj z))
theorem cw_non (cs : List Run) : cwR cs none = cs := by
  unfold cwR
  refine (List.map_congr_left fun r _ => ?_).trans (List.map_id _)
  show (r.1, if kdV none = .str r.1 then _ else r.2) = r
  rw [if_neg (fun z => by cases z)]
theorem few_non (cs : List Run) : fewL cs none = [] := by
  unfold fewL
  have : cs.filter (fewP none) = [] := by
    rw [List.filter_eq_nil_iff]
    intro r _ z
    unfold fewP at z
    rw [decide_eq_false (fun z => by cases z)] at z
    cases z
  rw [this]
  rfl
theorem few_split {cs pre post : List Run} {k : Str} {c n : Int} (h : Split cs k pre c post) : fewL cs (some (k, n)) = if c < n then [[.str "few", .int c]] else [] := by
  unfold fewL
  have no : ∀ {l : List Run}, (∀ r ∈ l, r.1 ≠ k) → l.filter (fewP (some (k, n))) = [] := fun hl => by
    rw [List.filter_eq_nil_iff]
    intro r hr z
    unfold fewP at z
    rw [decide_eq_false (show ¬ (V.str r.1 = kdV (some (k, n))) from fun z => hl r hr (V.str.inj z))] at z
    cases z
  rw [h.eq, List.filter_append, no h.pre, List.filter_cons, no h.post]
  have e : fewP (some (k, n)) (k, c) = decide (c < n) := by
    show (decide (V.str k = V.str k) && decide (c < n)) = _
    rw [decide_eq_true rfl, Bool.true_and]
  rw [e]
  by_cases q : c < n
  · rw [if_pos q, if_pos (decide_eq_true q)]
    rfl
  · rw [if_neg q, if_neg (by rw [decide_eq_false q]; decide)]
    rfl
theorem kn_len {cs : List Run} {st : Option Run} (asc : Asc cs) (kn : knR cs st) : lenR (cwR cs st) = lenR cs - numR st := by
  cases st with
  | none =>
    rw [cw_non]
    exact (Int.sub_zero _).symm
  | some r =>
    obtain ⟨x, hx, e⟩ := List.mem_map.mp (kn r rfl)
    obtain ⟨pre, post, sp⟩ := split_of asc hx
    obtain ⟨k, n⟩ := r
    have e : x.1 = k := e
    rw [e] at sp
    exact sp.lenc
/-- the kinds that have more than half -/
def mjP (W : Int) (l : List Run) : List (List V) := (l.filter fun r => decide (W < 2 * r.2)).map fun r => [.str "majority", .str r.1, .int r.2, .int W]
theorem maj_all (cs : List Run) : majL cs = mjP (lenR cs) cs := rfl
theorem mjP_snoc (W : Int) (l : List Run) (r : Run) : mjP W (l ++ [r]) = mjP W l ++ (if W < 2 * r.2 then [[.str "majority", .str r.1, .int r.2, .int W]] else []) := by
  unfold mjP
  rw [List.filter_append, List.map_append, List.filter_cons, List.filter_nil]
  by_cases c : W < 2 * r.2
  · rw [if_pos c, if_pos (decide_eq_true c)]
    rfl
  · rw [if_neg c, if_neg (by rw [decide_eq_false c]; decide)]
    rfl
end UP

set_option Elab.async false
set_option linter.all false
set_option maxRecDepth 100000
set_option maxHeartbeats 4000000
set_option pp.maxSteps 600
namespace UP
open PySem PySem.Spec PyProof.Rows L2
theorem en_refs {H : Hp} : ∀ {xs : List V} {cs : List Run}, Paired (RunV H) xs cs → ∃ ps : List Addr, xs = ps.map V.ref ∧ Paired (fun p kv => H p = some (.tup [kV kv.1, kv.2])) ps (cs.map enK)
  | _, _, .nil => ⟨[], rfl, .nil⟩
  | _, _, .cons ⟨t, e, h⟩ r => by
    obtain ⟨ps, e2, h2⟩ := en_refs r
    exact ⟨t :: ps, by rw [e, e2]; rfl, .cons h h2⟩
theorem refl_upd {H : Hp} {d l : Addr} {u o : HO} {F : List (List V)} (hd : H d = some u) (n1 : ∀ ys, u ≠ .tup ys) (n2 : ∀ ys, u ≠ .lst ys) (h : RefL H l F) : RefL (upd H d o) l F := by
  obtain ⟨xs, hx, hp⟩ := h
  refine ⟨xs, by rw [upd_ne (fun z => by rw [z, hd] at hx; exact n2 _ (Option.some.inj hx))]; exact hx, Paired.imp (fun x ys z => ?_) hp⟩
  obtain ⟨t, e, ht⟩ := z
  exact ⟨t, e, by rw [upd_ne (fun z => by rw [z, hd] at ht; exact n1 _ (Option.some.inj ht))]; exact ht⟩
theorem refl_add {H : Hp} {l u : Addr} {F : List (List V)} {ys : List V} (h : RefL H l F) (nu : H u = none) : ∃ xs, (upd H u (.tup ys)) l = some (.lst xs) ∧ xs.length = F.length ∧ RefL (upd (upd H u (.tup ys)) l (.lst (xs ++ [.ref u]))) l (F ++ [ys]) := by
  obtain ⟨xs, hx, hp⟩ := h
  have su := same_upd (o := .tup ys) nu
  have hx' := su _ _ hx
  refine ⟨xs, hx', Paired.len hp, _, upd_same, Paired.app (tups_grow hx' (tups_same su hp)) (.cons (TupV.grow hx' ⟨u, rfl, upd_same⟩) .nil)⟩
theorem if_gen {t : TT} {A B : TS} {D : Ends} {σ : L2.St} {H : Hp} (b : Bool) (ht : ∀ Q : Bool → Hp → Prop, Q b H → t σ H Q) (k : if b = true then A D σ H else B D σ H) : tIfS t A B D σ H := ht _ k
section
variable {P : Program} {w : World} {K : PySem.W.Frag} {mg : Str → Option Value} {base : Heap}
/-! _law_reasons: slots 0:counts 1:state 2:known 3:rest 4:found 5:kind 6:left 7:one -/
abbrev s_law_reasons : Stmt := topS 41
theorem sc_law_reasons : FnScope ["counts", "state", "known", "rest", "found", "kind", "left", "one"] ["counts", "state"] (defScope s_law_reasons) := ⟨rfl, rfl, rfl, by decide +kernel, rfl, by decide +kernel, by decide +kernel⟩
def sp_law_reasons : Sp := fun vs H Q _ => ∃ (a : Addr) (cs : List Run) (v : V) (st : Option Run), vs = [.ref a, v] ∧ Runs H a cs ∧ CtOk cs ∧ StV H v st ∧ ∀ H' p, Same H H' → H p = none → RefL H' p (rsR cs st) → Q (.ref p) H'
theorem ok_law_reasons (D : Df K mg "_law_reasons" s_law_reasons) (T : Tx mg) : Has P w K mg base 1 "_law_reasons" ["counts", "state"] sp_law_reasons := by
  refine has_of D sc_law_reasons (fun _ _ _ _ _ _ us hl => match us, hl with | [_, _], _ => rfl) (fun vs H Q E h => ?_) (fun f cdv A outer s₀ H vs Q E hr h => ?_)
  · obtain ⟨_, _, _, _, rfl, _⟩ := h
    rfl
  · obtain ⟨a, cs, v, st, rfl, hR, ok, hv, q⟩ := h
    obtain ⟨xs, hx, hp⟩ := id hR
    have lx : xs.length = cs.length := Paired.len hp
    have l12 := ok.1
    have asc : Asc cs := ok.2.2
    have nd := kinds_nd asc
    refine ⟨_, (pss_cons (ps_set (i := 2) sc_law_reasons.nd rfl (by first | exact Or.inl rfl | exact Or.inr rfl) (pe_callTy (call_dictP rfl) (by rfl) T.n_dict (by decide +kernel) (pa_cons (pe_lc (own := [("one", 7)]) rfl sc_law_reasons.nd (pi_list (pv 0)) (blkOk_by (N := ["counts", "state", "known", "rest", "found", "kind", "left", "one"]) (sc := defScope s_law_reasons) (by decide +kernel)) (fun _ _ _ _ _ => (pg_name (i := 7) sc_law_reasons.nd rfl (by first | exact Or.inl rfl | exact Or.inr rfl))) (fun _ _ _ _ _ => pts_nil) (fun _ _ _ _ _ => (pe_tup (pa_cons (pe_ix (ix_tupK (K := K) rfl) (pv 7) pe_int (fun _ _ => rfl)) (pa_cons (pe_ix (ix_tupK (K := K) rfl) (pv 7) pe_int (fun _ _ => rfl)) pa_nil))))) pa_nil)))
    (pss_cons (ps_set (i := 3) sc_law_reasons.nd rfl (by first | exact Or.inl rfl | exact Or.inr rfl) (pe_op op_sub (pe_callB (cr_sum rfl) (by rfl) T.n_sum (by decide +kernel) (pa_cons (pe_listVals rfl (pv 2) (by rfl) T.n_list (by decide +kernel)) pa_nil)) (pe_ifExp (pt_cmpR op_notN (pv 1) pe_non (nomark _)) (pe_ix ix_tup (pv 1) pe_int (fun _ _ => rfl)) pe_int)))
    (pss_cons (ps_if (PW.pt (pw_and (pt_cmpR op_notN (pv 1) pe_non (nomark _)) (pw_and1 (pt_cmp (pc_dnotin (hu_of hr) (pe_ix ix_tup (pv 1) pe_int (fun _ _ => rfl)) (pv 2)) (by with_unfolding_all rfl))))) (pss_one (ps_ret (pe_lst (pa_cons (pe_tup (pa_cons pe_str (pa_cons (pe_ix ix_tup (pv 1) pe_int (fun _ _ => rfl)) pa_nil))) pa_nil)))) pss_nil)
    (pss_cons (ps_set (i := 4) sc_law_reasons.nd rfl (by first | exact Or.inl rfl | exact Or.inr rfl) (pe_lst pa_nil))
    (pss_cons (ps_if (PW.pt (pw_and (pt_cmpR op_notN (pv 1) pe_non (nomark _)) (pw_and1 (pt_cmpR op_lt (pe_dget (hu_of hr) (pv 2) (pe_ix ix_tup (pv 1) pe_int (fun _ _ => rfl)) (fun _ _ => rfl)) (pe_ix ix_tup (pv 1) pe_int (fun _ _ => rfl)) (nomark _))))) (pss_one (ps_expr (pe_bm PySem.F.plainAttrs_list PySem.F.slot_list_append PySem.F.type_list_append mt_append (pv 4) (pa_cons (pe_tup (pa_cons pe_str (pa_cons (pe_dget (hu_of hr) (pv 2) (pe_ix ix_tup (pv 1) pe_int (fun _ _ => rfl)) (fun _ _ => rfl)) pa_nil))) pa_nil)))) pss_nil)
    (pss_cons (ps_if (pt_cmpR op_eq (pe_op op_mod (pv 3) pe_int) pe_int (nomark _)) (pss_one (ps_expr (pe_bm PySem.F.plainAttrs_list PySem.F.slot_list_append PySem.F.type_list_append mt_append (pv 4) (pa_cons (pe_tup (pa_cons pe_str (pa_cons (pv 3) pa_nil))) pa_nil)))) pss_nil)
    (pss_cons (ps_if (PW.pt (pw_or (pt_cmpR op_isN (pv 1) pe_non (nomark _)) (pw_or1 (pt_cmpR op_ge (pe_dget (hu_of hr) (pv 2) (pe_ix ix_tup (pv 1) pe_int (fun _ _ => rfl)) (fun _ _ => rfl)) (pe_ix ix_tup (pv 1) pe_int (fun _ _ => rfl)) (nomark _))))) (pss_one (ps_lock (ps_for PassesOwn.never rfl (pi_keys (pv 2)) (pg_name (i := 5) sc_law_reasons.nd rfl (by first | exact Or.inl rfl | exact Or.inr rfl))
      (pss_cons (ps_set (i := 6) sc_law_reasons.nd rfl (by first | exact Or.inl rfl | exact Or.inr rfl) (pe_op op_sub (pe_dget (hu_of hr) (pv 2) (pv 5) (fun _ _ => rfl)) (pe_ifExp (PW.pt (pw_and (pt_cmpR op_notN (pv 1) pe_non (nomark _)) (pw_and1 (pt_cmpR op_eq (pe_ix ix_tup (pv 1) pe_int (fun _ _ => rfl)) (pv 5) (nomark _))))) (pe_ix ix_tup (pv 1) pe_int (fun _ _ => rfl)) pe_int)))
    (pss_one (ps_if (pt_cmpR op_gt (pe_op op_add (pv 6) (pv 6)) (pv 3) (nomark _)) (pss_one (ps_expr (pe_bm PySem.F.plainAttrs_list PySem.F.slot_list_append PySem.F.type_list_append mt_append (pv 4) (pa_cons (pe_tup (pa_cons pe_str (pa_cons (pv 5) (pa_cons (pv 6) (pa_cons (pv 3) pa_nil))))) pa_nil)))) pss_nil)))))) pss_nil)
    (pss_one (ps_ret (pv 4)))))))))), ?_⟩
    refine ⟨_, rfl, _, rfl, ⟨xs, .of hx⟩, fun L nL => lc_list (K := K) (a := a) (xs := xs) (fun i H' => Same H H' ∧ ∃ ys, H' L = some (.lst ys) ∧ Paired (RunV H') ys (cs.take i)) ⟨same_upd nL, [], upd_same, .nil⟩ (fun i H' _ p => .of (p.1 _ _ hx)) (fun i x H2 ex p => ?_) (fun H2 p => ?_)⟩
    · obtain ⟨sm, ys, hL, hy⟩ := p
      obtain ⟨r, er, hr1⟩ := Paired.at hp ex
      have hi : i < xs.length := (List.getElem?_eq_some_iff.mp ex).1
      obtain ⟨t, rfl, ht⟩ := RunV.same sm hr1
      refine ⟨rfl, yesT ⟨_, rfl, t, _, 0, _, rfl, rfl, .of ht, at0, _, rfl, t, _, 1, _, rfl, rfl, .of ht, at1, (by show 2 ≤ sizeLine; decide), fun n nn => ⟨_, same_upd nn _ _ hL, ?_, same_grow nL (sm.trans (same_upd nn)), _, upd_same, ?_⟩⟩⟩
      · have := Paired.len hy
        rw [List.length_take] at this
        exact small (by omega)
      · rw [take_snoc er]
        exact Paired.app (Paired.imp (fun _ _ z => RunV.grow (same_upd nn _ _ hL) (RunV.same (same_upd nn) z)) hy) (.cons (RunV.grow (same_upd nn _ _ hL) ⟨n, rfl, upd_same⟩) .nil)
    obtain ⟨s2, ys, hL, hy⟩ := p
    rw [lx, List.take_length] at hy
    obtain ⟨ps, rfl, hps⟩ := en_refs hy
    refine ⟨L, ps, cs.map enK, rfl, .of hL, Paired.imp (fun _ _ z => .of z) hps, fun d nd2 => ?_⟩
    rw [merge_en asc]
    have s3 : Same H (upd H2 d (.dK (cs.map enK))) := s2.trans (same_upd nd2)
    have nd0 : H d = none := s2.free nd2
    have hd : (upd H2 d (.dK (cs.map enK))) d = some (.dK (cs.map enK)) := upd_same
    generalize upd H2 d (.dK (cs.map enK)) = H3 at *
    clear hL hy hps s2 nL hx hp
    refine seq_gen (fun σ' H' => σ' = [some (.ref a), some v, some (.ref d), none, none, none, none, none] ∧ H3 = H') (fun R hRr => hRr _ _ ⟨rfl, rfl⟩) (fun σ' H' hO => ?_)
    obtain ⟨rfl, rfl⟩ := hO
    -- the rest
    refine seq_gen (fun σ' H' => σ' = [some (.ref a), some v, some (.ref d), some (.int (lenR cs - numR st)), none, none, none, none] ∧ Same H3 H') (fun R hRr => ?_) (fun σ' H4 hO => ?_)
    · refine ⟨_, rfl, d, _, rfl, hd, fun p np => ⟨p, cs.map (·.2), rfl, .of (by rw [upd_same, List.map_map, List.map_map]; rfl), ?_⟩⟩
      have sp := same_upd (o := .lst ((cs.map enK).map fun kv => kv.2)) np
      have eL : (cs.map (·.2)).sum = lenR cs := rfl
      rw [eL]
      cases st with
      | none =>
        have hv : v = .non := hv
        subst hv
        exact ⟨_, rfl, rfl, _, rfl, iteN rfl ⟨_, _, rfl, rfl, hRr _ _ ⟨rfl, sp⟩⟩⟩
      | some r =>
        obtain ⟨t, rfl, ht⟩ := hv
        exact ⟨_, rfl, rfl, _, rfl, iteP rfl ⟨_, rfl, t, _, 1, _, rfl, rfl, .of (sp _ _ (s3 _ _ ht)), at1, _, _, rfl, rfl, hRr _ _ ⟨rfl, sp⟩⟩⟩
    obtain ⟨rfl, s4⟩ := hO
    have hd4 := s4 _ _ hd
    have hv4 := StV.same (s3.trans s4) hv
    have s04 := s3.trans s4
    clear s3 s4 hd
    refine seq_gen (fun σ' H' => σ' = [some (.ref a), some v, some (.ref d), some (.int (lenR cs - numR st)), none, none, none, none] ∧ H4 = H' ∧ knR cs st) (fun R hRr => ?_) (fun σ' H' hO => ?_)
    · cases st with
      | none =>
        have hv : v = .non := hv
        subst hv
        exact ⟨_, rfl, rfl, _, rfl, iteN rfl (iteF (hRr _ _ ⟨rfl, rfl, fun r e => by cases e⟩))⟩
      | some r =>
        obtain ⟨t, rfl, ht⟩ := hv4
        refine ⟨_, rfl, rfl, _, rfl, iteP rfl ⟨_, rfl, t, _, 0, _, rfl, rfl, .of ht, at0, _, rfl, d, _, rfl, .inl ⟨cs.map enK, Sum.inr r.1, .inl hd4, rfl, rfl⟩, ?_⟩⟩
        by_cases kn : r.1 ∈ cs.map (·.1)
        · obtain ⟨x, hx, e⟩ := List.mem_map.mp kn
          have hv := val_get nd hx
          rw [show x.1 = r.1 from e] at hv
          rw [hv]
          exact ⟨_, rfl, iteF (hRr _ _ ⟨rfl, rfl, fun r' e => by cases e; exact kn⟩)⟩
        · rw [val_no kn]
          refine ⟨_, rfl, iteT ?_⟩
          refine ⟨_, rfl, t, _, 0, _, rfl, rfl, .of ht, at0, (by show 2 ≤ sizeLine; decide), fun u nu => ⟨(by show 1 ≤ sizeLine; decide), fun l nl => ?_⟩⟩
          refine q _ l (s04.trans ((same_upd nu).trans (same_upd nl))) ((s04.trans (same_upd nu)).free nl) ⟨_, upd_same, ?_⟩
          rw [rs_unk kn]
          exact .cons ⟨u, rfl, same_upd nl _ _ upd_same⟩ .nil
    obtain ⟨rfl, rfl, kn⟩ := hO
    have rsk := rs_kn kn
    have cwl := kn_len asc kn
    refine ⟨Nat.zero_le _, fun l nl => ?_⟩
    have nld : l ≠ d := fun z => by rw [z, hd4] at nl; cases nl
    have n0 : H l = none := s04.free nl
    have s5 := s04.trans (same_upd (o := .lst []) nl)
    have hd5 := same_upd (o := .lst []) nl _ _ hd4
    have hl5 : (upd H4 l (.lst [])) l = some (.lst []) := upd_same
    have hv5 := StV.same (same_upd (o := .lst []) nl) hv4
    generalize upd H4 l (.lst []) = H5 at *
    clear hv4 hd4 s04 nl
    refine seq_gen (fun σ' H' => σ' = [some (.ref a), some v, some (.ref d), some (.int (lenR cs - numR st)), some (.ref l), none, none, none] ∧ H5 = H') (fun R hRr => hRr _ _ ⟨rfl, rfl⟩) (fun σ' H' hO => ?_)
    obtain ⟨rfl, rfl⟩ := hO
    -- few
    refine seq_gen (fun σ' H' => σ' = [some (.ref a), some v, some (.ref d), some (.int (lenR cs - numR st)), some (.ref l), none, none, none] ∧ Same H H' ∧ H' d = some (.dK (cs.map enK)) ∧ StV H' v st ∧ RefL H' l (fewL cs st)) (fun R hRr => ?_) (fun σ' H6 hO => ?_)
    · cases st with
      | none =>
        have hv : v = .non := hv
        subst hv
        exact ⟨_, rfl, rfl, _, rfl, iteN rfl (iteF (hRr _ _ ⟨rfl, s5, hd5, rfl, by rw [few_non]; exact ⟨[], hl5, .nil⟩⟩))⟩
      | some r =>
        obtain ⟨k, n⟩ := r
        obtain ⟨t, rfl, ht⟩ := hv5
        obtain ⟨⟨k', c⟩, hx, e⟩ := List.mem_map.mp (kn _ rfl)
        have e : k' = k := e
        subst e
        have hg := val_get nd hx
        obtain ⟨pre, post, sp⟩ := split_of asc hx
        have fs := few_split (n := n) sp
        refine ⟨_, rfl, rfl, _, rfl, iteP rfl ⟨_, rfl, _, rfl, t, _, 0, _, rfl, rfl, .of ht, at0, d, _, rfl, .inl ⟨cs.map enK, Sum.inr k', .inl hd5, rfl, hg.symm⟩, _, rfl, t, _, 1, _, rfl, rfl, .of ht, at1, _, _, rfl, rfl, _, rfl, ?_⟩⟩
        by_cases cn : c < n
        · refine iteP (decide_eq_true cn) ?_
          refine ⟨_, rfl, .inl ⟨rfl, _, SqL.of hl5⟩, _, rfl, _, rfl, t, _, 0, _, rfl, rfl, .of ht, at0, d, _, rfl, .inl ⟨cs.map enK, Sum.inr k', .inl hd5, rfl, hg.symm⟩, (by show 2 ≤ sizeLine; decide), fun u nu => ?_⟩
          obtain ⟨zs, hz, lz, rz⟩ := refl_add (ys := [.str "few", .int c]) ⟨[], hl5, .nil⟩ nu
          have su := same_upd (o := .tup [.str "few", .int c]) nu
          refine ⟨l, _, _, rfl, rfl, hz, small (by rw [lz]; decide), hRr _ _ ⟨rfl, same_grow n0 (s5.trans su), ?_, ?_, ?_⟩⟩
          · rw [upd_ne nld.symm]
            exact su _ _ hd5
          · exact StV.same (same_grow n0 (s5.trans su)) hv
          · rw [fs, if_pos cn]
            exact rz
        · refine iteN (decide_eq_false cn) (hRr _ _ ⟨rfl, s5, hd5, ⟨t, rfl, ht⟩, ?_⟩)
          rw [fs, if_neg cn]
          exact ⟨[], hl5, .nil⟩
    obtain ⟨rfl, s6, hd6, hv6, hl6⟩ := hO
    -- parity
    refine seq_gen (fun σ' H' => σ' = [some (.ref a), some v, some (.ref d), some (.int (lenR cs - numR st)), some (.ref l), none, none, none] ∧ Same H H' ∧ H' d = some (.dK (cs.map enK)) ∧ RefL H' l (fewL cs st ++ parL cs st)) (fun R hRr => ?_) (fun σ' H7 hO => ?_)
    · refine ⟨_, rfl, _, _, rfl, rfl, (by show (0 : Int) < 2; decide), rfl, _, rfl, ?_⟩
      by_cases c : (lenR cs - numR st) % 2 = 1
      · refine iteP (by show decide (V.int ((lenR cs - numR st) % 2) = V.int 1) = true; rw [c, decide_eq_true rfl]) ?_
        obtain ⟨x6, hx6, _⟩ := id hl6
        refine ⟨_, rfl, .inl ⟨rfl, _, SqL.of hx6⟩, _, rfl, (by show 2 ≤ sizeLine; decide), fun u nu => ?_⟩
        obtain ⟨zs, hz, lz, rz⟩ := refl_add (ys := [.str "parity", .int (lenR cs - numR st)]) hl6 nu
        have su := same_upd (o := .tup [.str "parity", .int (lenR cs - numR st)]) nu
        have lf : (fewL cs st).length ≤ 12 := by
          unfold fewL
          rw [List.length_map]
          exact Nat.le_trans (List.length_filter_le _ _) l12
        refine ⟨l, _, _, rfl, rfl, hz, small (by omega), hRr _ _ ⟨rfl, same_grow n0 (s6.trans su), ?_, ?_⟩⟩
        · rw [upd_ne nld.symm]
          exact su _ _ hd6
        · unfold parL
          rw [cwl, if_pos c]
          exact rz
      · refine iteN (by show decide (V.int ((lenR cs - numR st) % 2) = V.int 1) = false; exact decide_eq_false fun z => c (V.int.inj z)) (hRr _ _ ⟨rfl, s6, hd6, ?_⟩)
        unfold parL
        rw [cwl, if_neg c, List.append_nil]
        exact hl6
    obtain ⟨rfl, s7, hd7, hl7⟩ := hO
    clear hl6 hd6 s6 hv6
    refine seq_gen (fun σ' H' => ∃ y5 y6, σ' = [some (.ref a), some v, some (.ref d), some (.int (lenR cs - numR st)), some (.ref l), y5, y6, none] ∧ Same H H' ∧ RefL H' l (rsR cs st)) (fun R hRr => ?_) (fun σ' H8 hO => ?_)
    · refine if_gen (decide (fewL cs st = [])) (fun Qb hb => ?_) ?_
      · cases st with
        | none =>
          rw [few_non] at hb
          have hv : v = .non := hv
          subst hv
          exact ⟨_, rfl, rfl, _, rfl, iteP rfl hb⟩
        | some r =>
          obtain ⟨k, n⟩ := r
          obtain ⟨t, rfl, ht⟩ := StV.same s7 hv
          obtain ⟨⟨k', c⟩, hx, e⟩ := List.mem_map.mp (kn _ rfl)
          have e : k' = k := e
          subst e
          have hg := val_get nd hx
          obtain ⟨pre, post, sp⟩ := split_of asc hx
          have fs := few_split (n := n) sp
          refine ⟨_, rfl, rfl, _, rfl, iteN rfl ⟨_, rfl, _, rfl, t, _, 0, _, rfl, rfl, .of ht, at0, d, _, rfl, .inl ⟨cs.map enK, Sum.inr k', .inl hd7, rfl, hg.symm⟩, _, rfl, t, _, 1, _, rfl, rfl, .of ht, at1, _, _, rfl, rfl, _, rfl, ?_⟩⟩
          have e : decide (fewL cs (some (k', n)) = []) = decide (n ≤ c) := by
            rw [fs]
            by_cases q : c < n
            · rw [if_pos q, decide_eq_false (show ¬ n ≤ c by omega)]
              exact decide_eq_false fun z => by cases z
            · rw [if_neg q, decide_eq_true (show n ≤ c by omega)]
              rfl
          rw [← e]
          exact hb
      by_cases F0 : fewL cs st = []
      · refine iteP (decide_eq_true F0) ?_
        rw [F0, List.nil_append] at hl7
        have rsE : rsR cs st = parL cs st ++ majL (cwR cs st) := by
          rw [rs_few0 kn F0, F0, List.nil_append]
        have frz : ∀ {u : HO}, (∀ ys, u ≠ .tup ys) → (∀ ys, u ≠ .lst ys) → True := fun _ _ => trivial
        refine ⟨d, .dK (cs.map enK), hd7, trivial, fun od => ?_⟩
        refine ⟨_, rfl, d, od, rfl, .inl ⟨cs.map enK, upd_same, for_gen (n := cs.length) (fun i σ H' => ∃ y5 y6, σ = [some (.ref a), some v, some (.ref d), some (.int (lenR cs - numR st)), some (.ref l), y5, y6, none] ∧ Same H H' ∧ H' d = some (.frz od (.dK (cs.map enK))) ∧ RefL H' l (parL cs st ++ mjP (lenR (cwR cs st)) ((cwR cs st).take i))) ⟨none, none, rfl, same_grow nd0 s7, upd_same, ?_⟩ (fun i σ H' hi hP => ?_) (fun σ H' hP => ?_) (fun i x σ H8 H9 hi hP hy => ?_) (fun σ H8 hP => ?_)⟩⟩
        · show RefL (upd H7 d _) l (parL cs st ++ [])
          rw [List.append_nil]
          exact refl_upd hd7 (fun ys z => by cases z) (fun ys z => by cases z) hl7
        · obtain ⟨_, _, _, _, hd8, _⟩ := hP
          exact ⟨hd8, by rw [List.length_map]; exact hi⟩
        · obtain ⟨_, _, _, _, hd8, _⟩ := hP
          exact ⟨hd8, by rw [List.length_map]; exact Nat.le_refl _⟩
        · obtain ⟨y5, y6, rfl, s8, hd8, hl8⟩ := hP
          obtain ⟨rfl, kk, vv, ek, rfl⟩ := hy
          have er : cs[i]? = some cs[i] := List.getElem?_eq_getElem hi
          generalize cs[i] = r at *
          have ek : (kk, vv) = enK r := by
            rw [List.getElem?_map, er] at ek
            exact (Option.some.inj ek).symm
          obtain ⟨rfl, rfl⟩ : kk = Sum.inr r.1 ∧ vv = .int r.2 := ⟨congrArg Prod.fst ek, congrArg Prod.snd ek⟩
          have hg := val_get nd (List.mem_of_getElem? er)
          have ew : (cwR cs st)[i]? = some (r.1, if kdV st = .str r.1 then r.2 - numR st else r.2) := by
            unfold cwR
            rw [List.getElem?_map, er]
            rfl
          generalize hlf : (if kdV st = .str r.1 then r.2 - numR st else r.2) = lf at ew
          have sn := mjP_snoc (lenR (cwR cs st)) ((cwR cs st).take i) (r.1, lf)
          rw [← take_snoc ew] at sn
          refine seq_gen (fun σ' H' => σ' = [some (.ref a), some v, some (.ref d), some (.int (lenR cs - numR st)), some (.ref l), some (.str r.1), some (.int lf), none] ∧ H9 = H') (fun R2 hR2 => ?_) (fun σ' H' hO => ?_)
          · refine ⟨_, rfl, _, rfl, d, _, rfl, .inl ⟨cs.map enK, Sum.inr r.1, .inr ⟨od, hd8⟩, rfl, hg.symm⟩, ?_⟩
            cases st with
            | none =>
              have hv : v = .non := hv
              subst hv
              refine ⟨_, rfl, rfl, _, rfl, iteN rfl (iteF ⟨_, _, rfl, rfl, hR2 _ _ ⟨?_, rfl⟩⟩)⟩
              rw [if_neg (fun z => by cases z)] at hlf
              rw [← hlf]
              simp only [Int.sub_zero]
              rfl
            | some s =>
              obtain ⟨k, n⟩ := s
              obtain ⟨t, rfl, ht⟩ := StV.same s8 hv
              refine ⟨_, rfl, rfl, _, rfl, iteP rfl ⟨_, rfl, t, _, 0, _, rfl, rfl, .of ht, at0, _, rfl, rfl, _, rfl, ?_⟩⟩
              by_cases ek2 : k = r.1
              · subst ek2
                refine iteP (by show decide (V.str r.1 = V.str r.1) = true; exact decide_eq_true rfl) ⟨_, rfl, t, _, 1, _, rfl, rfl, .of ht, at1, _, _, rfl, rfl, hR2 _ _ ⟨?_, rfl⟩⟩
                rw [if_pos (show kdV (some (r.1, n)) = .str r.1 from rfl)] at hlf
                rw [← hlf]
                rfl
              · refine iteN (by show decide (V.str k = V.str r.1) = false; exact decide_eq_false fun z => ek2 (V.str.inj z)) ⟨_, _, rfl, rfl, hR2 _ _ ⟨?_, rfl⟩⟩
                rw [if_neg (show ¬ kdV (some (k, n)) = .str r.1 from fun z => ek2 (V.str.inj z))] at hlf
                rw [← hlf]
                simp only [Int.sub_zero]
                rfl
          obtain ⟨rfl, rfl⟩ := hO
          refine ⟨_, rfl, _, rfl, _, _, rfl, rfl, _, rfl, _, _, rfl, rfl, _, rfl, ?_⟩
          by_cases big : lenR cs - numR st < lf + lf
          · refine iteP (decide_eq_true big) ?_
            obtain ⟨x8, hx8, _⟩ := id hl8
            refine ⟨_, rfl, .inl ⟨rfl, _, SqL.of hx8⟩, _, rfl, _, rfl, _, rfl, (by show 4 ≤ sizeLine; decide), fun u nu => ?_⟩
            obtain ⟨zs, hz, lz, rz⟩ := refl_add (ys := [.str "majority", .str r.1, .int lf, .int (lenR cs - numR st)]) hl8 nu
            have su := same_upd (o := .tup [.str "majority", .str r.1, .int lf, .int (lenR cs - numR st)]) nu
            have lsm : zs.length ≤ 100 := by
              rw [lz, List.length_append]
              have h1 : (parL cs st).length ≤ 1 := by
                unfold parL
                split
                · exact Nat.le_refl _
                · exact Nat.zero_le _
              have h2 : (mjP (lenR (cwR cs st)) ((cwR cs st).take i)).length ≤ 12 := by
                unfold mjP
                rw [List.length_map]
                refine Nat.le_trans (List.length_filter_le _ _) ?_
                rw [List.length_take, cw_len]
                omega
              omega
            refine ⟨l, _, _, rfl, rfl, hz, small (by omega), _, _, rfl, same_grow n0 (s8.trans su), ?_, ?_⟩
            · rw [upd_ne nld.symm]
              exact su _ _ hd8
            · rw [sn, if_pos (by show lenR (cwR cs st) < 2 * lf; omega), ← List.append_assoc, cwl]
              rw [cwl] at rz
              exact rz
          · refine iteN (decide_eq_false big) ⟨_, _, rfl, s8, hd8, ?_⟩
            rw [sn, if_neg (by show ¬ lenR (cwR cs st) < 2 * lf; omega), List.append_nil]
            exact hl8
        · obtain ⟨y5, y6, rfl, s8, hd8, hl8⟩ := hP
          have lw : (cwR cs st).take cs.length = cwR cs st := by rw [← cw_len cs st, List.take_length]
          rw [lw, ← maj_all, ← rsE] at hl8
          exact ⟨hd8, hRr _ _ ⟨y5, y6, rfl, same_grow nd0 s8, refl_upd hd8 (fun ys z => by cases z) (fun ys z => by cases z) hl8⟩⟩
      · refine iteN (decide_eq_false F0) (hRr _ _ ⟨none, none, rfl, s7, ?_⟩)
        rw [rs_few kn F0, List.append_nil]
        exact hl7
    obtain ⟨y5, y6, rfl, s8, r8⟩ := hO
    exact ⟨_, rfl, q _ l s8 n0 r8⟩
end
end UP

set_option Elab.async false
set_option linter.all false
set_option maxRecDepth 100000
set_option maxHeartbeats 4000000
namespace UP
open PySem PySem.Spec PyProof.Rows L2
/-! ### values of any form that a menu holds -/
inductive Dat where
  | non
  | bl (b : Bool)
  | int (n : Int)
  | str (z : Str)
  | dic
  | lst (l : List Dat)
  | tup (l : List Dat)
inductive Rp (H : Hp) : V → Dat → Prop where
  | non : Rp H .non .non
  | bl (b : Bool) : Rp H (.bl b) (.bl b)
  | int (n : Int) : Rp H (.int n) (.int n)
  | str (z : Str) : Rp H (.str z) (.str z)
  | dic {a : Addr} (e : H a = some (.dK [])) : Rp H (.ref a) .dic
  | lst {a : Addr} {xs : List V} {l : List Dat} (e : H a = some (.lst xs)) (h : Paired (Rp H) xs l) : Rp H (.ref a) (.lst l)
  | tup {a : Addr} {xs : List V} {l : List Dat} (e : H a = some (.tup xs)) (h : Paired (Rp H) xs l) : Rp H (.ref a) (.tup l)
theorem Rp.same {H H' : Hp} (s : Same H H') {v : V} {d : Dat} (h : Rp H v d) : Rp H' v d := by
  refine Rp.rec (motive_1 := fun v d _ => Rp H' v d) (motive_2 := fun xs l _ => Paired (Rp H') xs l) .non .bl .int .str ?_ ?_ ?_ .nil ?_ h
  · intro a e
    exact .dic (s _ _ e)
  · intro a xs l e _ ih
    exact .lst (s _ _ e) ih
  · intro a xs l e _ ih
    exact .tup (s _ _ e) ih
  · intro x y xs ys _ _ h1 h2
    exact .cons h1 h2
def Dat.isI : Dat → Bool
  | .int _ => true
  | _ => false
def Dat.inI (lo hi : Int) : Dat → Bool
  | .int n => decide (lo ≤ n ∧ n ≤ hi)
  | _ => false
/-- its parts, if it is a list or a tuple -/
def Dat.parts : Dat → Option (List Dat)
  | .lst l => some l
  | .tup l => some l
  | _ => none
def Dat.listed (d : Dat) (m : Int) : Bool := match d.parts with
  | some l => decide ((l.length : Int) ≤ m)
  | none => false
def Dat.couple (d : Dat) : Bool := match d.parts with
  | some l => decide (l.length = 2)
  | none => false
/-- the name of its type -/
def Dat.ty : Dat → String
  | .non => "NoneType"
  | .bl _ => "bool"
  | .int _ => "int"
  | .str _ => "str"
  | .dic => "dict"
  | .lst _ => "list"
  | .tup _ => "tuple"
theorem Rp.tyx {K : PySem.W.Frag} {H : Hp} {v : V} {d : Dat} (h : Rp H v d) : TyX K H v (.type d.ty) := by
  cases h with
  | non => exact .base .non
  | bl b => exact .base (.bl b)
  | int n => exact .base (.int n)
  | str z => exact .base (.str z)
  | dic e => exact .base (.dK e)
  | lst e _ => exact .base (.lst e)
  | tup e _ => exact .base (.tup e)
theorem Rp.noSeq {K : PySem.W.Frag} {H : Hp} {v : V} {d : Dat} (h : Rp H v d) (hd : d.parts = none) : ∃ t, TyX K H v t ∧ PySem.W.kitAny K t [.type "list", .type "tuple"] = some false := by
  cases h with
  | non => exact ⟨_, .base .non, kit_no (by decide +kernel) (by decide +kernel)⟩
  | bl b => exact ⟨_, .base (.bl b), kit_no (by decide +kernel) (by decide +kernel)⟩
  | int n => exact ⟨_, .base (.int n), kit_no (by decide +kernel) (by decide +kernel)⟩
  | str z => exact ⟨_, .base (.str z), kit_no (by decide +kernel) (by decide +kernel)⟩
  | dic e => exact ⟨_, .base (.dK e), kit_no (by decide +kernel) (by decide +kernel)⟩
  | lst e _ => cases hd
  | tup e _ => cases hd
theorem Rp.seq {H : Hp} {v : V} {d : Dat} (h : Rp H v d) {l : List Dat} (hd : d.parts = some l) : ∃ a xs, v = .ref a ∧ Sq2 H a xs ∧ Paired (Rp H) xs l := by
  cases h with
  | non => cases hd
  | bl b => cases hd
  | int n => cases hd
  | str z => cases hd
  | dic e => cases hd
  | lst e h => cases hd; exact ⟨_, _, rfl, .inl e, h⟩
  | tup e h => cases hd; exact ⟨_, _, rfl, .inr e, h⟩
theorem giP {b : Bool} {A B : Prop} (h : b = true) (x : A) : if b = true then A else B := by
  rw [if_pos h]
  exact x
theorem giN {b : Bool} {A B : Prop} (h : b = false) (x : B) : if b = true then A else B := by
  rw [if_neg (by rw [h]; decide)]
  exact x
section
variable {P : Program} {w : World} {K : PySem.W.Frag} {mg : Str → Option Value} {base : Heap}
def spD_is_whole : Sp := fun vs H Q _ => ∃ (v : V) (d : Dat), vs = [v] ∧ Rp H v d ∧ Q (.bl d.isI) H
theorem okD_is_whole (D : Df K mg "is_whole" s_is_whole) (T : Tx mg) : Has P w K mg base 1 "is_whole" ["value"] spD_is_whole := by
  refine has_of D sc_is_whole (fun _ _ _ _ _ _ us hl => match us, hl with | [_], _ => rfl) (fun vs H Q E h => ?_) (fun f cdv A outer s H vs Q E hr h => ?_)
  · obtain ⟨v, d, rfl, _⟩ := h
    rfl
  · obtain ⟨v, d, rfl, hv, q⟩ := h
    refine ⟨_, (pss_one (ps_ret (pe_and (pe_callB call_isi (by rfl) T.n_isinstance (by decide +kernel) (pa_cons (pv 0) (pa_cons (pe_bltn (v := .ty "int") (by rfl) T.n_int (by decide +kernel) rfl) pa_nil))) (pe_one (pe_not (pe_callB call_isi (by rfl) T.n_isinstance (by decide +kernel) (pa_cons (pv 0) (pa_cons (pe_bltn (v := .ty "bool") (by rfl) T.n_bool (by decide +kernel) rfl) pa_nil)))))))), ?_⟩
    cases hv with
    | int n => exact ⟨_, rfl, _, _, _, _, true, rfl, .ty "int", .base (.int n), kit_ty (by decide +kernel), true, rfl, iteT ⟨_, rfl, _, _, _, _, false, rfl, .ty "bool", .base (.int n), kit_ty (by decide +kernel), false, rfl, q⟩⟩
    | bl b => exact ⟨_, rfl, _, _, _, _, true, rfl, .ty "int", .base (.bl b), kit_ty (by decide +kernel), true, rfl, iteT ⟨_, rfl, _, _, _, _, true, rfl, .ty "bool", .base (.bl b), kit_ty (by decide +kernel), true, rfl, q⟩⟩
    | non => exact ⟨_, rfl, _, _, _, _, false, rfl, .ty "int", .base .non, kit_ty (by decide +kernel), false, rfl, iteF q⟩
    | str z => exact ⟨_, rfl, _, _, _, _, false, rfl, .ty "int", .base (.str z), kit_ty (by decide +kernel), false, rfl, iteF q⟩
    | dic e => exact ⟨_, rfl, _, _, _, _, false, rfl, .ty "int", .base (.dK e), kit_ty (by decide +kernel), false, rfl, iteF q⟩
    | lst e h => exact ⟨_, rfl, _, _, _, _, false, rfl, .ty "int", .base (.lst e), kit_ty (by decide +kernel), false, rfl, iteF q⟩
    | tup e h => exact ⟨_, rfl, _, _, _, _, false, rfl, .ty "int", .base (.tup e), kit_ty (by decide +kernel), false, rfl, iteF q⟩
def spD_is_listed : Sp := fun vs H Q _ => ∃ (v : V) (d : Dat) (m : Int), vs = [v, .int m] ∧ Rp H v d ∧ ∀ H', Same H H' → Q (.bl (d.listed m)) H'
theorem okD_is_listed (D : Df K mg "is_listed" s_is_listed) (T : Tx mg) : Has P w K mg base 1 "is_listed" ["value", "most"] spD_is_listed := by
  refine has_of D sc_is_listed (fun _ _ _ _ _ _ us hl => match us, hl with | [_, _], _ => rfl) (fun vs H Q E h => ?_) (fun f cdv A outer s H vs Q E hr h => ?_)
  · obtain ⟨v, d, m, rfl, _⟩ := h
    rfl
  · obtain ⟨v, d, m, rfl, hv, q⟩ := h
    refine ⟨_, (pss_one (ps_ret (pe_and (pe_callB call_isiT (by rfl) T.n_isinstance (by decide +kernel) (pa_cons (pv 0) (pa_cons (pe_tup (pa_cons (pe_bltn (v := .ty "list") (by rfl) T.n_list (by decide +kernel) rfl) (pa_cons (pe_bltn (v := .ty "tuple") (by rfl) T.n_tuple (by decide +kernel) rfl) pa_nil))) pa_nil))) (pe_one (pe_cmpR op_le (pe_callB call_len_seq (by rfl) T.n_len (by decide +kernel) (pa_cons (pv 0) pa_nil)) (pv 1) (nomark _)))))), ?_⟩
    refine ⟨_, rfl, (by show 2 ≤ sizeLine; decide), fun t nt => ?_⟩
    have q := q _ (same_upd (o := .tup [.ty "list", .ty "tuple"]) nt)
    have hv := hv.same (same_upd (o := .tup [.ty "list", .ty "tuple"]) nt)
    cases hd : d.parts with
    | none =>
      obtain ⟨tv, h1, h2⟩ := hv.noSeq (K := K) hd
      refine ⟨_, t, _, _, _, false, rfl, upd_same, .cons (.ty "list") (.cons (.ty "tuple") .nil), h1, h2, false, rfl, iteF ?_⟩
      rw [show d.listed m = false by unfold Dat.listed; rw [hd]] at q
      exact q
    | some l =>
      obtain ⟨a, xs, rfl, hx, hp⟩ := hv.seq hd
      have ll : xs.length = l.length := Paired.len hp
      rw [show d.listed m = decide ((xs.length : Int) ≤ m) by unfold Dat.listed; rw [hd, ll]] at q
      rcases hx with hx | hx
      · refine ⟨_, t, _, _, _, true, rfl, upd_same, .cons (.ty "list") (.cons (.ty "tuple") .nil), .base (.lst hx), kit_lst, true, rfl, iteT ?_⟩
        exact ⟨_, rfl, _, _, rfl, .inl (.of hx), _, rfl, _, _, rfl, rfl, q⟩
      · refine ⟨_, t, _, _, _, true, rfl, upd_same, .cons (.ty "list") (.cons (.ty "tuple") .nil), .base (.tup hx), kit_tup, true, rfl, iteT ?_⟩
        exact ⟨_, rfl, _, _, rfl, .inr (.of hx), _, rfl, _, _, rfl, rfl, q⟩
def spD_is_couple : Sp := fun vs H Q _ => ∃ (v : V) (d : Dat), vs = [v] ∧ Rp H v d ∧ ∀ H', Same H H' → Q (.bl d.couple) H'
theorem okD_is_couple (D : Df K mg "is_couple" s_is_couple) (T : Tx mg) : Has P w K mg base 1 "is_couple" ["value"] spD_is_couple := by
  refine has_of D sc_is_couple (fun _ _ _ _ _ _ us hl => match us, hl with | [_], _ => rfl) (fun vs H Q E h => ?_) (fun f cdv A outer s H vs Q E hr h => ?_)
  · obtain ⟨v, d, rfl, _⟩ := h
    rfl
  · obtain ⟨v, d, rfl, hv, q⟩ := h
    refine ⟨_, (pss_one (ps_ret (pe_and (pe_callB call_isiT (by rfl) T.n_isinstance (by decide +kernel) (pa_cons (pv 0) (pa_cons (pe_tup (pa_cons (pe_bltn (v := .ty "list") (by rfl) T.n_list (by decide +kernel) rfl) (pa_cons (pe_bltn (v := .ty "tuple") (by rfl) T.n_tuple (by decide +kernel) rfl) pa_nil))) pa_nil))) (pe_one (pe_cmpR op_eq (pe_callB call_len_seq (by rfl) T.n_len (by decide +kernel) (pa_cons (pv 0) pa_nil)) pe_int (nomark _)))))), ?_⟩
    refine ⟨_, rfl, (by show 2 ≤ sizeLine; decide), fun t nt => ?_⟩
    have q := q _ (same_upd (o := .tup [.ty "list", .ty "tuple"]) nt)
    have hv := hv.same (same_upd (o := .tup [.ty "list", .ty "tuple"]) nt)
    cases hd : d.parts with
    | none =>
      obtain ⟨tv, h1, h2⟩ := hv.noSeq (K := K) hd
      refine ⟨_, t, _, _, _, false, rfl, upd_same, .cons (.ty "list") (.cons (.ty "tuple") .nil), h1, h2, false, rfl, iteF ?_⟩
      rw [show d.couple = false by unfold Dat.couple; rw [hd]] at q
      exact q
    | some l =>
      obtain ⟨a, xs, rfl, hx, hp⟩ := hv.seq hd
      have ll : xs.length = l.length := Paired.len hp
      have eb : decide (V.int (xs.length : Int) = V.int 2) = d.couple := by
        unfold Dat.couple
        rw [hd]
        show _ = decide (l.length = 2)
        rw [← ll]
        exact decide_eq_decide.mpr ⟨fun z => by have := V.int.inj z; omega, fun z => by rw [z]; rfl⟩
      rw [← eb] at q
      rcases hx with hx | hx
      · exact ⟨_, t, _, _, _, true, rfl, upd_same, .cons (.ty "list") (.cons (.ty "tuple") .nil), .base (.lst hx), kit_lst, true, rfl, iteT ⟨_, rfl, _, _, rfl, .inl (.of hx), rfl, q⟩⟩
      · exact ⟨_, t, _, _, _, true, rfl, upd_same, .cons (.ty "list") (.cons (.ty "tuple") .nil), .base (.tup hx), kit_tup, true, rfl, iteT ⟨_, rfl, _, _, rfl, .inr (.of hx), rfl, q⟩⟩
end
end UP

set_option Elab.async false
set_option linter.all false
set_option maxRecDepth 100000
set_option maxHeartbeats 4000000
namespace UP
open PySem PySem.Spec PyProof.Rows L2
/-! ### written values -/
def Lit (σ : L2.St) (H0 : Hp) (t : TE) (d : Dat) : Prop := ∀ H (Q : VK), Same H0 H → (∀ H' v, Same H H' → Rp H' v d → Q v H') → t σ H Q
def Lits (σ : L2.St) (H0 : Hp) (t : TA) (ds : List Dat) : Prop := ∀ H (Q : List V → Hp → Prop), Same H0 H → (∀ H' vs, Same H H' → Paired (Rp H') vs ds → Q vs H') → t σ H Q
section
variable {σ : L2.St} {H0 : Hp}
theorem Lit.go {H : Hp} {t : TE} {d : Dat} {Q : VK} (h : Lit σ H t d) (q : ∀ H' v, Same H H' → Rp H' v d → Q v H') : t σ H Q := h H Q (Same.refl _) q
theorem lit_non : Lit σ H0 (tC .non) .non := fun H Q _ q => q H _ (Same.refl _) .non
theorem lit_int {n : Int} : Lit σ H0 (tC (.int n)) (.int n) := fun H Q _ q => q H _ (Same.refl _) (.int n)
theorem lit_bl {b : Bool} : Lit σ H0 (tC (.bl b)) (.bl b) := fun H Q _ q => q H _ (Same.refl _) (.bl b)
theorem lit_str {z : Str} : Lit σ H0 (tC (.str z)) (.str z) := fun H Q _ q => q H _ (Same.refl _) (.str z)
theorem lit_dic : Lit σ H0 tDNewK .dic := fun H Q _ q p np => q _ _ (same_upd np) (.dic upd_same)
theorem lit_var {i : Nat} {v : V} {d : Dat} (e : σ[i]? = some (some v)) (h : Rp H0 v d) : Lit σ H0 (tVar i) d := fun H Q s q => ⟨v, e, q H v (Same.refl _) (h.same s)⟩
theorem lit_val {t : TE} {v : V} {d : Dat} (h : ∀ H (Q : VK), Q v H → t σ H Q) (r : ∀ H, Rp H v d) : Lit σ H0 t d := fun H Q _ q => h H Q (q H v (Same.refl _) (r H))
theorem lits_nil : Lits σ H0 tNil [] := fun H Q _ q => q H [] (Same.refl _) .nil
theorem lits_cons {t : TE} {ts : TA} {d : Dat} {ds : List Dat} (h1 : Lit σ H0 t d) (h2 : Lits σ H0 ts ds) : Lits σ H0 (tCons t ts) (d :: ds) := fun H Q s q => h1 H _ s fun H1 v s1 r1 => h2 H1 _ (s.trans s1) fun H2 vs s2 r2 => q H2 (v :: vs) (s1.trans s2) (.cons (r1.same s2) r2)
theorem rps_same {H H' : Hp} {xs : List V} {ds : List Dat} (s : Same H H') (h : Paired (Rp H) xs ds) : Paired (Rp H') xs ds := Paired.imp (fun _ _ => Rp.same s) h
theorem lit_lst {ts : TA} {ds : List Dat} (h : Lits σ H0 ts ds) (l : ds.length ≤ 1000) : Lit σ H0 (tLst ts) (.lst ds) := fun H Q s q => h H _ s fun H1 vs s1 r => ⟨by rw [Paired.len r]; exact smallE (by omega), fun p np => q _ _ (s1.trans (same_upd np)) (.lst upd_same (rps_same (same_upd np) r))⟩
theorem lit_tup {ts : TA} {ds : List Dat} (h : Lits σ H0 ts ds) (l : ds.length ≤ 1000) : Lit σ H0 (tTup ts) (.tup ds) := fun H Q s q => h H _ s fun H1 vs s1 r => ⟨by rw [Paired.len r]; exact smallE (by omega), fun p np => q _ _ (s1.trans (same_upd np)) (.tup upd_same (rps_same (same_upd np) r))⟩
theorem lit_cat {t u : TE} {a b : List Dat} (h1 : Lit σ H0 t (.lst a)) (h2 : Lit σ H0 u (.lst b)) (l : a.length + b.length ≤ 1000) : Lit σ H0 (tOp rCat t u) (.lst (a ++ b)) := fun H Q s q => h1 H _ s fun H1 v s1 r1 => h2 H1 _ (s.trans s1) fun H2 w s2 r2 => by
  cases r1.same s2 with
  | lst e1 p1 =>
    cases r2 with
    | lst e2 p2 =>
      refine ⟨_, _, _, _, rfl, rfl, e1, e2, ?_, fun p np => q _ _ (s1.trans (s2.trans (same_upd np))) (.lst upd_same (rps_same (same_upd np) (Paired.app p1 p2)))⟩
      rw [Paired.len p1, Paired.len p2]
      exact smallE (by omega)
theorem rep_pair {α β : Type} {F : α → β → Prop} {xs : List α} {ys : List β} (h : Paired F xs ys) : ∀ n : Nat, Paired F (List.replicate n xs).flatten (List.replicate n ys).flatten
  | 0 => .nil
  | n + 1 => by
    rw [List.replicate_succ, List.replicate_succ, List.flatten_cons, List.flatten_cons]
    exact Paired.app h (rep_pair h n)
theorem lit_rep {t : TE} {a : List Dat} {k : Int} (h1 : Lit σ H0 t (.lst a)) (k0 : 0 ≤ k) (k1 : k ≤ 1000) (l : a.length * k.toNat ≤ 1000) : Lit σ H0 (tOp rRep t (tC (.int k))) (.lst (List.replicate k.toNat a).flatten) := fun H Q s q => h1 H _ s fun H1 v s1 r1 => by
  cases r1 with
  | lst e1 p1 =>
    refine ⟨_, k, _, rfl, rfl, e1, by omega, by omega, ?_, fun p np => q _ _ (s1.trans (same_upd np)) (.lst upd_same (rps_same (same_upd np) (rep_pair p1 _)))⟩
    rw [Paired.len p1]
    exact smallE (by omega)
end
/-- an index into a written list -/
theorem rp_at {H : Hp} {v : V} {ds : List Dat} {i : Int} (h : Rp H v (.lst ds)) (i0 : 0 ≤ i) (i1 : i.toNat < ds.length) : ∃ a xs x, v = .ref a ∧ H a = some (.lst xs) ∧ atI xs i = some x ∧ Rp H x ds[i.toNat] := by
  cases h with
  | lst e p =>
    obtain ⟨x, ex, hx⟩ := Paired.at' p (List.getElem?_eq_getElem i1)
    exact ⟨_, _, x, rfl, e, atI_ofR i0 ex, hx⟩
theorem lit_set {t : TE} {d : Dat} {i : Nat} {D : Ends} {rest : TS} {σ : L2.St} {H : Hp} (h : Lit σ H t d) (q : ∀ H' v, Same H H' → Rp H' v d → rest D (σ.set i (some v)) H') : tSeq (tAsg t (gName i)) rest D σ H := h H _ (Same.refl _) q
theorem lit_retIx {K : PySem.W.Frag} {t u : TE} {ds : List Dat} {D : Ends} {σ : L2.St} {H : Hp} (h : Lit σ H t (.lst ds)) (q : ∀ H' v, Same H H' → Rp H' v (.lst ds) → u σ H' (fun y H2 => rIxL K v y H2 D.rt)) : tRet (tOp (rIxL K) t u) D σ H := h H _ (Same.refl _) q
end UP

set_option Elab.async false
set_option linter.all false
set_option maxRecDepth 100000
set_option maxHeartbeats 4000000
namespace UP
open PySem PySem.Spec PyProof.Rows L2
/-! ### repr of values that hold an empty dict -/
mutual
def Dat.py : Dat → PyData
  | .non => .none
  | .bl b => .bool b
  | .int n => .int n
  | .str z => .str z
  | .dic => .dict []
  | .lst l => .list (Dat.pys l)
  | .tup l => .tuple (Dat.pys l)
def Dat.pys : List Dat → List PyData
  | [] => []
  | x :: t => x.py :: Dat.pys t
end
def RpK (prog : Program) (w : World) (h : Heap) (u : Value) (d : PyData) : Prop :=
  (∃ as, Reads h u d as) ∧ (d.showable = true → d.shown.length ≤ sizeLine → ∃ bs, ReadAtMost h d.depth bs ∧ ReprK prog w bs h d.depth u d.shown)
def RpKs (prog : Program) (w : World) (h : Heap) (us : List Value) (ds : List PyData) : Prop :=
  (∃ as, ReadsAll h us ds as) ∧ (PyData.showableAll ds = true → (∀ t ∈ PyData.shownAll ds, t.length ≤ sizeLine) → ∃ bs, ReadAtMost h (PyData.depthAll ds) bs ∧ ReprAllK prog w bs h (PyData.depthAll ds) us (PyData.shownAll ds))
theorem dic_reads {X : Cx} {pins : List (Addr × Obj)} {σ : L2.St} {H : Hp} {s : Shared} {a : Addr} (I : Inv X pins σ H s) (e : H a = some (.dK [])) : ∃ o n, s.heap.get? a = some o ∧ o.cls = .type "dict" ∧ o.data = .dict #[] n ∧ (a == sysModules) = false := by
  obtain ⟨_, hs, vs, kv, o, es, ep, ho, ex, hd, _, hp, _⟩ := dk_of I.hok e
  cases kv
  obtain ⟨l⟩ := es
  have hp : Pairs (mixKind X.prog X.w) l [] := hp
  cases l with
  | nil => exact ⟨o, ep, ho, ex.1, hd, hs⟩
  | cons x t => cases hp
theorem RpKs.cons {prog : Program} {w : World} {h : Heap} {u : Value} {us : List Value} {d : PyData} {ds : List PyData} (h1 : RpK prog w h u d) (h2 : RpKs prog w h us ds) : RpKs prog w h (u :: us) (d :: ds) := by
  obtain ⟨⟨as, r⟩, k1⟩ := h1
  obtain ⟨⟨bs, rs⟩, k2⟩ := h2
  refine ⟨⟨_, .cons r rs⟩, fun hs hz => ?_⟩
  have hs' : d.showable = true ∧ PyData.showableAll ds = true := by simpa [PyData.showableAll] using hs
  obtain ⟨b1, hb1, k1⟩ := k1 hs'.1 (hz _ (by simp only [PyData.shownAll]; exact List.mem_cons_self ..))
  obtain ⟨b2, hb2, k2⟩ := k2 hs'.2 (fun t ht => hz t (by simp only [PyData.shownAll]; exact List.mem_cons_of_mem _ ht))
  refine ⟨b1 ++ b2, ?_, ?_⟩
  · simp only [PyData.depthAll]
    exact (hb1.mono (Nat.le_max_left _ _)).append (hb2.mono (Nat.le_max_right _ _))
  · simp only [PyData.depthAll, PyData.shownAll]
    exact .cons ((k1.more fun b hb => List.mem_append_left _ hb).level_le (Nat.le_max_left _ _)) (k2.more_le (fun b hb => List.mem_append_right _ hb) (Nat.le_max_right _ _))
theorem RpK.list {prog : Program} {w : World} {h : Heap} {a : Addr} {o : Obj} {its : List Value} {n : Nat} {ds : List PyData} (h1 : h.get? a = some o) (h2 : o.cls = .type "list") (h3 : o.data = .seq its.toArray n) (k : RpKs prog w h its ds) : RpK prog w h (.ref a) (.list ds) := by
  obtain ⟨⟨as, h4⟩, k⟩ := k
  have r : Reads h (.ref a) (.list ds) _ := .list h1 h2 h3 h4
  refine ⟨⟨_, r⟩, fun hs hz => ?_⟩
  have hz' : (listText (PyData.shownAll ds)).length ≤ sizeLine := by simpa only [PyData.shown] using hz
  obtain ⟨bs, hb, hk⟩ := k (by simpa [PyData.showable] using hs) (fun t ht => Nat.le_trans (listText_mem_le ht) hz')
  have hna : a ∉ bs := not_mem_of_deeper r (by simp only [PyData.depth]; omega) hb
  refine ⟨a :: bs, ReadAtMost.cons r (by simp only [PyData.depth]; omega) hb, ?_⟩
  simp only [PyData.depth, PyData.shown]
  cases its with
  | nil =>
    have h4' : ReadsAll h [] ds _ := h4
    cases h4'
    simp only [PyData.shownAll, listText_nil]
    exact ReprK.listEmpty h1 h2 h3
  | cons x l => exact ReprK.list h1 h2 h3 hna (by simpa using hk.length_eq) (fun i y e => hk.item i y (by simpa using e))
theorem RpK.tuple {prog : Program} {w : World} {h : Heap} {a : Addr} {o : Obj} {its : List Value} {n : Nat} {ds : List PyData} (h1 : h.get? a = some o) (h2 : o.cls = .type "tuple") (h3 : o.data = .seq its.toArray n) (k : RpKs prog w h its ds) : RpK prog w h (.ref a) (.tuple ds) := by
  obtain ⟨⟨as, h4⟩, k⟩ := k
  have r : Reads h (.ref a) (.tuple ds) _ := .tuple h1 h2 h3 h4
  refine ⟨⟨_, r⟩, fun hs hz => ?_⟩
  have hz' : (tupleText (PyData.shownAll ds)).length ≤ sizeLine := by simpa only [PyData.shown] using hz
  obtain ⟨bs, hb, hk⟩ := k (by simpa [PyData.showable] using hs) (fun t ht => Nat.le_trans (tupleText_mem_le ht) hz')
  have hna : a ∉ bs := not_mem_of_deeper r (by simp only [PyData.depth]; omega) hb
  refine ⟨a :: bs, ReadAtMost.cons r (by simp only [PyData.depth]; omega) hb, ?_⟩
  simp only [PyData.depth, PyData.shown]
  exact ReprK.tuple h1 h2 h3 hna hk
theorem RpK.dict {prog : Program} {w : World} {h : Heap} {a : Addr} {o : Obj} {n : Nat} (h1 : h.get? a = some o) (h2 : o.cls = .type "dict") (h3 : o.data = .dict #[] n) (hs : (a == sysModules) = false) : RpK prog w h (.ref a) (.dict []) := by
  have r : Reads h (.ref a) (.dict []) _ := .dict h1 h2 h3 .nil .nil
  refine ⟨⟨_, r⟩, fun _ _ => ⟨[a], ?_, ?_⟩⟩
  · intro b hb
    rw [List.mem_singleton.mp hb]
    exact ⟨_, _, r, Nat.le_refl _⟩
  · exact ReprK.dict h1 h2 h3 hs (fun z => by cases z) .nil
theorem Rp.reprK {X : Cx} {pins : List (Addr × Obj)} {σ : L2.St} {H : Hp} {s : Shared} (I : Inv X pins σ H s) {v : V} {d : Dat} (h : Rp H v d) : ∀ u, RelV v u → RpK X.prog X.w s.heap u d.py := by
  refine Rp.rec (motive_1 := fun v d _ => ∀ u, RelV v u → RpK X.prog X.w s.heap u d.py) (motive_2 := fun xs l _ => ∀ us, Vals xs us → RpKs X.prog X.w s.heap us (Dat.pys l)) ?_ ?_ ?_ ?_ ?_ ?_ ?_ ?_ ?_ h
  · intro u r
    cases r
    exact ⟨⟨_, .none⟩, fun hs hz => ReprK.of_reads .none hs (fun z => by cases z) hz⟩
  · intro b u r
    cases r
    exact ⟨⟨_, .bool b⟩, fun hs hz => ReprK.of_reads (.bool b) hs (fun z => by cases z) hz⟩
  · intro n u r
    obtain ⟨t, rfl⟩ := r
    exact ⟨⟨_, .int n t⟩, fun hs hz => ReprK.of_reads (.int n t) hs (fun z => by cases z) hz⟩
  · intro n u r
    obtain ⟨t, rfl⟩ := r
    exact ⟨⟨_, .str n t⟩, fun hs hz => ReprK.of_reads (.str n t) hs (fun z => by cases z) hz⟩
  · intro a e u r
    cases r
    obtain ⟨o, n, h1, h2, h3, h4⟩ := dic_reads I e
    exact RpK.dict h1 h2 h3 h4
  · intro a xs l e _ ih u r
    cases r
    obtain ⟨its, rv, ⟨o, n, ho, hc, _, hd⟩, _⟩ := I.list (SqL.of e)
    exact RpK.list ho hc hd (ih its rv)
  · intro a xs l e _ ih u r
    cases r
    obtain ⟨its, rv, ⟨o, ho, hc, n, hd⟩, _⟩ := I.tuple (SqT.of e)
    exact RpK.tuple ho hc hd (ih its rv)
  · intro us r
    cases r
    exact ⟨⟨_, .nil⟩, fun _ _ => ⟨[], (fun _ h => nomatch h), by simp only [Dat.pys, PyData.shownAll]; exact .nil⟩⟩
  · intro x y xs ys _ _ h1 h2 us r
    cases r with
    | cons r1 r2 => exact RpKs.cons (h1 _ r1) (h2 _ r2)
/-- repr(xs), xs a list or a tuple of such values -/
def rReprR : List V → Hp → VK → Prop := fun xs H Q => ∃ (a : Addr) (d : Dat), xs = [.ref a] ∧ Rp H (.ref a) d ∧ d.py.showable = true ∧ d.py.depth ≤ 64 ∧ d.py.shown.length ≤ sizeLine ∧ Q (.str d.py.shown) H
theorem call_reprR {X : Cx} (hg : X.A.guards = some []) (hu : X.A.units + 70 < cLine) : CallR X (.builtin "repr") rReprR := by
  intro pins s σ H xs us Q I r h
  obtain ⟨a, d, rfl, hr, sh, dp, sz, q⟩ := h
  obtain ⟨u, rfl, ru⟩ := vals1 r
  cases (show u = Value.ref a from ru)
  have fin : ∀ h' u tk, (∀ b o, s.heap.get? b = some o → h'.get? b = some o) → EP X pins σ Q (.str d.py.shown u) { s with heap := h', toks := tk } := fun h' u tk hk => ⟨.str d.py.shown, H, I.kept (t' := tk) hk, ⟨u, rfl⟩, q⟩
  cases hr with
  | dic e =>
    obtain ⟨o, n, h1, h2, h3, h4⟩ := dic_reads I e
    have rd : Reads s.heap (.ref a) (.dict []) _ := .dict h1 h2 h3 .nil .nil
    exact repr_of_reads' rd sh (fun _ z => by
      have z : sysModules ∈ [a] := z
      rw [List.mem_singleton.mp z] at h4
      simp at h4) hg (by show X.A.units + ((PyData.dict []).depth + 1) < cLine; have : (PyData.dict []).depth ≤ 64 := dp; omega) (fun _ _ e => e) fin sz
  | @lst _ xs l e hp =>
    obtain ⟨its, rv, ⟨o, n, ho, hc, _, hd⟩, _⟩ := I.list (SqL.of e)
    have all : ∀ {xs : List V} {l : List Dat}, Paired (Rp H) xs l → ∀ us, Vals xs us → RpKs X.prog X.w s.heap us (Dat.pys l) := by
      intro xs l hp
      induction hp with
      | nil =>
        intro us r
        cases r
        exact ⟨⟨_, .nil⟩, fun _ _ => ⟨[], (fun _ h => nomatch h), by simp only [Dat.pys, PyData.shownAll]; exact .nil⟩⟩
      | cons h1 _ ih =>
        intro us r
        cases r with
        | cons r1 r2 => exact RpKs.cons (h1.reprK I _ r1) (ih _ r2)
    have k := all hp its rv
    obtain ⟨⟨as, h4⟩, k⟩ := k
    have sz' : (listText (PyData.shownAll (Dat.pys l))).length ≤ sizeLine := by simpa only [Dat.py, PyData.shown] using sz
    obtain ⟨bs, hb, hk⟩ := k (by simpa [Dat.py, PyData.showable] using sh) (fun t ht => Nat.le_trans (listText_mem_le ht) sz')
    have r : Reads s.heap (.ref a) (.list (Dat.pys l)) _ := .list ho hc hd h4
    have hna : a ∉ bs := not_mem_of_deeper r (by simp only [PyData.depth]; omega) hb
    have dp' : PyData.depthAll (Dat.pys l) + 1 ≤ 64 := by simpa only [Dat.py, PyData.depth] using dp
    simp only [Dat.py, PyData.shown] at fin
    refine call_repr_slot (by omega) ⟨o, ho, hc⟩ F.slot_list_repr.toG ?_
    cases its with
    | nil =>
      have h4' : ReadsAll s.heap [] (Dat.pys l) _ := h4
      cases hl : Dat.pys l with
      | nil =>
        rw [hl] at fin
        simp only [PyData.shownAll, listText_nil] at fin
        exact call_list_repr_empty ⟨o, ho, hc⟩ ho hd ⟨_, _, rfl, fin s.heap _ _ fun _ _ e => e⟩
      | cons x t =>
        rw [hl] at h4'
        cases h4'
    | cons x t =>
      exact call_list_reprK ho hc hd hna (by simpa using hk.length_eq) (fun i y e => hk.item i y (by simpa using e)) (g := []) hg (fun b _ => Clear.nil b) (by show X.A.units + 1 + _ < cLine; omega) (fun _ _ e => e) (fun h' u tk hk => ⟨_, _, rfl, fin h' u tk hk⟩) sz'
  | @tup _ xs l e hp =>
    obtain ⟨its, rv, ⟨o, ho, hc, n, hd⟩, _⟩ := I.tuple (SqT.of e)
    have all : ∀ {xs : List V} {l : List Dat}, Paired (Rp H) xs l → ∀ us, Vals xs us → RpKs X.prog X.w s.heap us (Dat.pys l) := by
      intro xs l hp
      induction hp with
      | nil =>
        intro us r
        cases r
        exact ⟨⟨_, .nil⟩, fun _ _ => ⟨[], (fun _ h => nomatch h), by simp only [Dat.pys, PyData.shownAll]; exact .nil⟩⟩
      | cons h1 _ ih =>
        intro us r
        cases r with
        | cons r1 r2 => exact RpKs.cons (h1.reprK I _ r1) (ih _ r2)
    have k := all hp its rv
    obtain ⟨⟨as, h4⟩, k⟩ := k
    have sz' : (tupleText (PyData.shownAll (Dat.pys l))).length ≤ sizeLine := by simpa only [Dat.py, PyData.shown] using sz
    obtain ⟨bs, hb, hk⟩ := k (by simpa [Dat.py, PyData.showable] using sh) (fun t ht => Nat.le_trans (tupleText_mem_le ht) sz')
    have r : Reads s.heap (.ref a) (.tuple (Dat.pys l)) _ := .tuple ho hc hd h4
    have hna : a ∉ bs := not_mem_of_deeper r (by simp only [PyData.depth]; omega) hb
    have dp' : PyData.depthAll (Dat.pys l) + 1 ≤ 64 := by simpa only [Dat.py, PyData.depth] using dp
    simp only [Dat.py, PyData.shown] at fin
    refine call_repr_slot (by omega) ⟨o, ho, hc⟩ F.slot_tuple_repr ?_
    exact call_tuple_reprK ho hc hd hna hk (g := []) hg (fun b _ => Clear.nil b) (by show X.A.units + 1 + _ < cLine; omega) (fun _ _ e => e) (fun h' u tk hk => ⟨_, _, rfl, fin h' u tk hk⟩) sz'
end UP

set_option Elab.async false
set_option linter.all false
set_option maxRecDepth 100000
set_option maxHeartbeats 4000000
set_option pp.maxSteps 600
namespace UP
open PySem PySem.Spec PyProof.Rows L2
/-! ### values without dicts -/
mutual
def Dat.nk : Dat → Bool
  | .dic => false
  | .lst l => Dat.nks l
  | .tup l => Dat.nks l
  | _ => true
def Dat.nks : List Dat → Bool
  | [] => true
  | x :: t => x.nk && Dat.nks t
end
theorem Rp.dp {K : PySem.W.Frag} {H : Hp} {v : V} {d : Dat} (h : Rp H v d) : d.nk = true → Dp K H v d.py := by
  refine Rp.rec (motive_1 := fun v d _ => d.nk = true → Dp K H v d.py) (motive_2 := fun xs l _ => Dat.nks l = true → DpAll K H xs (Dat.pys l)) ?_ ?_ ?_ ?_ ?_ ?_ ?_ ?_ ?_ h
  · intro _
    rw [Dat.py]
    exact .non
  · intro b _
    rw [Dat.py]
    exact .bl b
  · intro n _
    rw [Dat.py]
    exact .int n
  · intro z _
    rw [Dat.py]
    exact .str z
  · intro a e c
    cases c
  · intro a xs l e _ ih c
    rw [Dat.py]
    rw [Dat.nk] at c
    exact .lst (.of e) (ih c)
  · intro a xs l e _ ih c
    rw [Dat.py]
    rw [Dat.nk] at c
    exact .tup (.of e) (ih c)
  · intro _
    rw [Dat.pys]
    exact .nil
  · intro x y xs ys _ _ h1 h2 c
    rw [Dat.nks, Bool.and_eq_true] at c
    rw [Dat.pys]
    exact .cons (h1 c.1) (h2 c.2)
theorem rps_dp {K : PySem.W.Frag} {H : Hp} : ∀ {xs : List V} {l : List Dat}, Paired (Rp H) xs l → Dat.nks l = true → DpAll K H xs (Dat.pys l)
  | _, _, .nil, _ => by rw [Dat.pys]; exact .nil
  | _, _, .cons h t, c => by
    rw [Dat.nks, Bool.and_eq_true] at c
    rw [Dat.pys]
    exact .cons (h.dp c.1) (rps_dp t c.2)
theorem nk_parts {d : Dat} {l : List Dat} (hd : d.parts = some l) (c : d.nk = true) : Dat.nks l = true := by
  cases d with
  | lst q => cases hd; rw [Dat.nk] at c; exact c
  | tup q => cases hd; rw [Dat.nk] at c; exact c
  | _ => cases hd
theorem shaped_parts {d : Dat} {l : List Dat} (hd : d.parts = some l) (c : SeqAt.shaped d.py = true) : SeqAt.shaped (.list (Dat.pys l)) = true := by
  cases d with
  | lst q => cases hd; rw [Dat.py] at c; exact c
  | tup q =>
    cases hd
    rw [Dat.py] at c
    unfold SeqAt.shaped at c ⊢
    rw [PyData.canLay0, PyData.depth] at c
    rw [PyData.canLay0, PyData.depth]
    exact c
  | _ => cases hd
noncomputable instance decDat : DecidableEq Dat := fun a b => Classical.propDecidable (a = b)
def Dat.bB : Dat → Option Bool
  | .bl b => some b
  | _ => none
theorem dp_bls {K : PySem.W.Frag} {H : Hp} : ∀ (bs : List Bool), DpAll K H (bs.map V.bl) (bs.map PyData.bool)
  | [] => .nil
  | b :: t => .cons (.bl b) (dp_bls t)
theorem can_bls : ∀ (bs : List Bool), PyData.canLayAll0 (bs.map PyData.bool) = true ∧ PyData.depthAll (bs.map PyData.bool) = 0
  | [] => ⟨by rw [List.map_nil, PyData.canLayAll0], by rw [List.map_nil, PyData.depthAll]⟩
  | b :: t => by
    obtain ⟨h1, h2⟩ := can_bls t
    rw [List.map_cons, PyData.canLayAll0, PyData.depthAll, h1, h2, PyData.canLay0, PyData.depth]
    exact ⟨rfl, rfl⟩
theorem shaped_bls (bs : List Bool) : SeqAt.shaped (.list (bs.map PyData.bool)) = true := by
  obtain ⟨h1, h2⟩ := can_bls bs
  unfold SeqAt.shaped
  rw [PyData.canLay0, PyData.depth, h1, h2]
  rfl
theorem eqv_nilD {ds : List PyData} : PyData.eqv (.list ds) (.list []) = ds.isEmpty := by
  rw [PyData.eqv]
  cases ds with
  | nil => rw [PyData.eqvAll]; rfl
  | cons x t => rw [PyData.eqvAll]; rfl
section
variable {P : Program} {w : World} {K : PySem.W.Frag} {mg : Str → Option Value} {base : Heap}
theorem Sq2.two {H : Hp} {a : Addr} {xs : List V} (h : Sq2 H a xs) : SqL K H a xs ∨ SqT K H a xs := h.elim (fun z => .inl (.of z)) fun z => .inr (.of z)
theorem Sq2.ty {H : Hp} {a : Addr} {xs : List V} (h : Sq2 H a xs) : ∃ t, TyX K H (.ref a) t ∧ PySem.W.kitAny K t [.type "list", .type "tuple"] = some true := h.elim (fun z => ⟨_, .base (.lst z), kit_lst⟩) fun z => ⟨_, .base (.tup z), kit_tup⟩
theorem Rp.isB {H : Hp} {v : V} {d : Dat} (h : Rp H v d) : ∃ t, TyX K H v t ∧ PySem.W.kitOne K t (.type "bool") = some d.bB.isSome := by
  cases h with
  | non => exact ⟨_, .base .non, kit_ty (show kitB "NoneType" "bool" = some false by decide +kernel)⟩
  | bl b => exact ⟨_, .base (.bl b), kit_ty (show kitB "bool" "bool" = some true by decide +kernel)⟩
  | int n => exact ⟨_, .base (.int n), kit_ty (show kitB "int" "bool" = some false by decide +kernel)⟩
  | str z => exact ⟨_, .base (.str z), kit_ty (show kitB "str" "bool" = some false by decide +kernel)⟩
  | dic e => exact ⟨_, .base (.dK e), kit_ty (show kitB "dict" "bool" = some false by decide +kernel)⟩
  | lst e _ => exact ⟨_, .base (.lst e), kit_ty (show kitB "list" "bool" = some false by decide +kernel)⟩
  | tup e _ => exact ⟨_, .base (.tup e), kit_ty (show kitB "tuple" "bool" = some false by decide +kernel)⟩
end
/-! ### the reasons as values -/
def vD : V → Dat
  | .str z => .str z
  | .int n => .int n
  | _ => .non
def SI (y : V) : Prop := (∃ z, y = .str z ∧ PyData.strOk z = true) ∨ ∃ n : Int, y = .int n
def rowD (r : List V) : Dat := .tup (r.map vD)
def RwOk (rows : List (List V)) : Prop := rows.length ≤ 30 ∧ ∀ r ∈ rows, r.length ≤ 4 ∧ ∀ y ∈ r, SI y
theorem rp_flat {H : Hp} : ∀ {ys : List V}, (∀ y ∈ ys, SI y) → Paired (Rp H) ys (ys.map vD)
  | [], _ => .nil
  | y :: t, h => by
    have ih := rp_flat (H := H) (ys := t) fun y hy => h y (List.mem_cons_of_mem _ hy)
    rcases h y (List.mem_cons_self ..) with ⟨z, rfl, zk⟩ | ⟨n, rfl⟩
    · exact .cons (.str z) ih
    · exact .cons (.int n) ih
theorem rp_rows {H : Hp} : ∀ {xs : List V} {rows : List (List V)}, Paired (TupV H) xs rows → (∀ r ∈ rows, ∀ y ∈ r, SI y) → Paired (Rp H) xs (rows.map rowD)
  | _, _, .nil, _ => .nil
  | _, _, .cons ⟨t, e, h⟩ r, k => by
    subst e
    exact .cons (.tup h (rp_flat (k _ (List.mem_cons_self ..)))) (rp_rows r fun r hr => k r (List.mem_cons_of_mem _ hr))
theorem rp_refl {H : Hp} {p : Addr} {rows : List (List V)} (h : RefL H p rows) (k : RwOk rows) : Rp H (.ref p) (.lst (rows.map rowD)) := by
  obtain ⟨xs, e, z⟩ := h
  exact .lst e (rp_rows z fun r hr => (k.2 r hr).2)
theorem pys_map : ∀ (l : List Dat), Dat.pys l = l.map Dat.py
  | [] => by rw [Dat.pys]; rfl
  | x :: t => by rw [Dat.pys, pys_map t]; rfl
theorem nks_of : ∀ {l : List Dat}, (∀ e ∈ l, e.nk = true) → Dat.nks l = true
  | [], _ => by rw [Dat.nks]
  | x :: t, h => by rw [Dat.nks, h x (List.mem_cons_self ..), nks_of fun e he => h e (List.mem_cons_of_mem _ he)]; rfl
def AtD (x : Dat) : Prop := x.parts = none ∧ x ≠ .dic ∧ ∀ z, x = .str z → PyData.strOk z = true
theorem at_nk {x : Dat} (h : AtD x) : x.nk = true := by
  cases x with
  | dic => exact absurd rfl h.2.1
  | lst l => cases h.1
  | tup l => cases h.1
  | _ => rfl
theorem at_py {x : Dat} (h : AtD x) : x.py.canLay0 = true ∧ x.py.depth = 0 := by
  cases x with
  | dic => exact absurd rfl h.2.1
  | lst l => cases h.1
  | tup l => cases h.1
  | str z => rw [Dat.py, PyData.canLay0, PyData.depth]; exact ⟨h.2.2 z rfl, rfl⟩
  | _ => rw [Dat.py, PyData.canLay0, PyData.depth]; exact ⟨rfl, rfl⟩
theorem all_py {n : Nat} : ∀ {l : List Dat}, (∀ e ∈ l, e.py.canLay0 = true ∧ e.py.depth ≤ n) → PyData.canLayAll0 (Dat.pys l) = true ∧ PyData.depthAll (Dat.pys l) ≤ n
  | [], _ => by
    rw [Dat.pys, PyData.canLayAll0, PyData.depthAll]
    exact ⟨rfl, Nat.zero_le _⟩
  | x :: t, h => by
    obtain ⟨h1, h2⟩ := all_py (l := t) fun e he => h e (List.mem_cons_of_mem _ he)
    obtain ⟨h3, h4⟩ := h x (List.mem_cons_self ..)
    rw [Dat.pys, PyData.canLayAll0, PyData.depthAll, h1, h3]
    exact ⟨rfl, Nat.max_le.mpr ⟨h4, h2⟩⟩
theorem seq_py {n : Nat} {d : Dat} {l : List Dat} (hd : d.parts = some l) (h : ∀ e ∈ l, e.py.canLay0 = true ∧ e.py.depth ≤ n) : d.py.canLay0 = true ∧ d.py.depth ≤ n + 1 := by
  obtain ⟨h1, h2⟩ := all_py h
  cases d with
  | lst q =>
    cases hd
    rw [Dat.py, PyData.canLay0, PyData.depth]
    exact ⟨h1, by omega⟩
  | tup q =>
    cases hd
    rw [Dat.py, PyData.canLay0, PyData.depth]
    exact ⟨h1, by omega⟩
  | _ => cases hd
theorem si_at {y : V} (h : SI y) : AtD (vD y) := by
  rcases h with ⟨z, rfl, zk⟩ | ⟨n, rfl⟩
  · exact ⟨rfl, (fun z => by cases z), fun u e => by cases e; exact zk⟩
  · exact ⟨rfl, (fun z => by cases z), fun u e => by cases e⟩
theorem row_py {r : List V} (h : ∀ y ∈ r, SI y) : (rowD r).nk = true ∧ (rowD r).py.canLay0 = true ∧ (rowD r).py.depth ≤ 1 := by
  refine ⟨?_, seq_py (l := r.map vD) rfl fun e he => ?_⟩
  · unfold rowD
    rw [Dat.nk]
    refine nks_of fun e he => ?_
    obtain ⟨y, hy, rfl⟩ := List.mem_map.mp he
    exact at_nk (si_at (h y hy))
  · obtain ⟨y, hy, rfl⟩ := List.mem_map.mp he
    obtain ⟨h1, h2⟩ := at_py (si_at (h y hy))
    exact ⟨h1, by omega⟩
theorem rows_py {rows : List (List V)} (k : RwOk rows) : (Dat.lst (rows.map rowD)).nk = true ∧ (Dat.lst (rows.map rowD)).py.canLay0 = true ∧ (Dat.lst (rows.map rowD)).py.depth ≤ 2 := by
  refine ⟨?_, seq_py (l := rows.map rowD) rfl fun e he => ?_⟩
  · rw [Dat.nk]
    refine nks_of fun e he => ?_
    obtain ⟨r, hr, rfl⟩ := List.mem_map.mp he
    exact (row_py (k.2 r hr).2).1
  · obtain ⟨r, hr, rfl⟩ := List.mem_map.mp he
    exact (row_py (k.2 r hr).2).2
/-! ### claims -/
def ClD (rows : List (List V)) (e : Dat) : Prop := e.parts = none ∨ ∃ l, e.parts = some l ∧ l.length ≤ 5 ∧ ((∀ x ∈ l, AtD x) ∨ l = [.str "unknown", .lst [.str "a"]] ∨ l = [.lst (rows.map rowD)])
theorem cl_part {rows : List (List V)} {e : Dat} {l : List Dat} (k : RwOk rows) (h : ClD rows e) (hl : e.parts = some l) : l.length ≤ 5 ∧ ∀ x ∈ l, x.nk = true ∧ x.py.canLay0 = true ∧ x.py.depth ≤ 2 := by
  rcases h with h | ⟨l', h1, h2, h3⟩
  · rw [h] at hl
    cases hl
  · rw [h1] at hl
    cases hl
    refine ⟨h2, ?_⟩
    rcases h3 with h3 | rfl | rfl
    · intro x hx
      obtain ⟨a, b⟩ := at_py (h3 x hx)
      exact ⟨at_nk (h3 x hx), a, by omega⟩
    · intro x hx
      simp only [List.mem_cons, List.not_mem_nil, or_false] at hx
      rcases hx with e | e
      · rw [e]
        obtain ⟨a, b⟩ := at_py (x := .str "unknown") ⟨rfl, (fun z => by cases z), fun u e => by cases e; decide +kernel⟩
        exact ⟨rfl, a, by omega⟩
      · rw [e]
        obtain ⟨a, b⟩ := seq_py (n := 1) (d := .lst [.str "a"]) (l := [.str "a"]) rfl fun e he => by
          rw [List.mem_singleton.mp he]
          obtain ⟨a, b⟩ := at_py (x := .str "a") ⟨rfl, (fun z => by cases z), fun u e => by cases e; decide +kernel⟩
          exact ⟨a, by omega⟩
        exact ⟨rfl, a, b⟩
    · intro x hx
      rw [List.mem_singleton.mp hx]
      exact rows_py k
theorem cl_shaped {rows : List (List V)} {e : Dat} {l : List Dat} (k : RwOk rows) (h : ClD rows e) (hl : e.parts = some l) : Dat.nks l = true ∧ SeqAt.shaped (.tuple (Dat.pys l)) = true ∧ ∀ m : List Dat, (∀ x ∈ m, x ∈ l) → SeqAt.shaped (.list (Dat.pys m)) = true := by
  obtain ⟨_, p⟩ := cl_part k h hl
  refine ⟨nks_of fun x hx => (p x hx).1, ?_, fun m hm => ?_⟩
  · obtain ⟨a, b⟩ := all_py fun x hx => (p x hx).2
    unfold SeqAt.shaped
    rw [PyData.canLay0, PyData.depth, a]
    exact decide_eq_true (by omega)
  · obtain ⟨a, b⟩ := all_py fun x hx => (p x (hm x hx)).2
    unfold SeqAt.shaped
    rw [PyData.canLay0, PyData.depth, a]
    exact decide_eq_true (by omega)
theorem rows_shaped {rows : List (List V)} (k : RwOk rows) : SeqAt.shaped (.list (Dat.pys (rows.map rowD))) = true := by
  obtain ⟨a, b⟩ := all_py (n := 1) (l := rows.map rowD) fun x hx => by
    obtain ⟨r, hr, rfl⟩ := List.mem_map.mp hx
    exact (row_py (k.2 r hr).2).2
  unfold SeqAt.shaped
  rw [PyData.canLay0, PyData.depth, a]
  exact decide_eq_true (by omega)
theorem eqv_vd {y : V} {x : Dat} (hy : SI y) (hx : x.bB = none) : PyData.eqv (vD y).py x.py = decide (x = vD y) := by
  rcases hy with ⟨z, rfl, zk⟩ | ⟨n, rfl⟩
  · cases x with
    | bl b => cases hx
    | str u =>
      show PyData.eqv (Dat.str z).py (Dat.str u).py = decide (Dat.str u = Dat.str z)
      rw [Dat.py, Dat.py, PyData.eqv]
      by_cases c : u = z
      · subst c
        rw [decide_eq_true rfl]
        simp
      · rw [decide_eq_false (fun q => c (Dat.str.inj q))]
        simp
        exact fun q => c q.symm
    | _ =>
      rw [decide_eq_false (show ¬ _ = vD (V.str z) from fun q => by cases q)]
      show PyData.eqv (Dat.str z).py _ = false
      rw [Dat.py, Dat.py, PyData.eqv]
  · cases x with
    | bl b => cases hx
    | int u =>
      show PyData.eqv (Dat.int n).py (Dat.int u).py = decide (Dat.int u = Dat.int n)
      rw [Dat.py, Dat.py, PyData.eqv]
      by_cases c : u = n
      · subst c
        rw [decide_eq_true rfl]
        simp
      · rw [decide_eq_false (fun q => c (Dat.int.inj q))]
        simp
        exact fun q => c q.symm
    | _ =>
      rw [decide_eq_false (show ¬ _ = vD (V.int n) from fun q => by cases q)]
      show PyData.eqv (Dat.int n).py _ = false
      rw [Dat.py, Dat.py, PyData.eqv]
theorem eqv_row : ∀ {r : List V} {l : List Dat}, (∀ y ∈ r, SI y) → (∀ x ∈ l, x.bB = none) → PyData.eqvAll (Dat.pys (r.map vD)) (Dat.pys l) = decide (l = r.map vD)
  | [], [], _, _ => by
    rw [List.map_nil, Dat.pys, PyData.eqvAll]
    exact (decide_eq_true rfl).symm
  | [], x :: t, _, _ => by
    rw [List.map_nil, Dat.pys, Dat.pys, PyData.eqvAll]
    exact (decide_eq_false (fun z => by cases z)).symm
  | y :: s, [], _, _ => by
    rw [List.map_cons, Dat.pys, Dat.pys, PyData.eqvAll]
    exact (decide_eq_false (fun z => by cases z)).symm
  | y :: s, x :: t, h1, h2 => by
    rw [List.map_cons, Dat.pys, Dat.pys, PyData.eqvAll, eqv_vd (h1 y (List.mem_cons_self ..)) (h2 x (List.mem_cons_self ..)), eqv_row (fun y hy => h1 y (List.mem_cons_of_mem _ hy)) fun x hx => h2 x (List.mem_cons_of_mem _ hx)]
    rw [Bool.eq_iff_iff, Bool.and_eq_true, decide_eq_true_iff, decide_eq_true_iff, decide_eq_true_iff, List.cons.injEq]
def anyD (rows : List (List V)) (l : List Dat) : Bool := (Dat.pys (rows.map rowD)).any fun z => PyData.eqv z (.tuple (Dat.pys l))
open Classical in
noncomputable def dueL (rows : List (List V)) (l : List Dat) : Bool := decide (∃ r ∈ rows, l = r.map vD)
noncomputable def dueD (rows : List (List V)) (d : Dat) : Bool := match d.parts with
  | some l => dueL rows l
  | none => false
theorem any_due {rows : List (List V)} {l : List Dat} (k : RwOk rows) (h : ∀ x ∈ l, x.bB = none) : anyD rows l = dueL rows l := by
  unfold anyD dueL
  rw [pys_map, List.map_map, List.any_map, Bool.eq_iff_iff, List.any_eq_true, decide_eq_true_iff]
  constructor
  · rintro ⟨r, hr, e⟩
    have e : PyData.eqv (rowD r).py (.tuple (Dat.pys l)) = true := e
    unfold rowD at e
    rw [Dat.py, PyData.eqv, eqv_row (k.2 r hr).2 h] at e
    exact ⟨r, hr, of_decide_eq_true e⟩
  · rintro ⟨r, hr, e⟩
    refine ⟨r, hr, ?_⟩
    show PyData.eqv (rowD r).py (.tuple (Dat.pys l)) = true
    unfold rowD
    rw [Dat.py, PyData.eqv, eqv_row (k.2 r hr).2 h]
    exact decide_eq_true e
theorem due_no {rows : List (List V)} {l : List Dat} (k : RwOk rows) {x : Dat} (hx : x ∈ l) (h : ∀ y : V, SI y → x ≠ vD y) : dueL rows l = false := by
  unfold dueL
  refine decide_eq_false ?_
  rintro ⟨r, hr, rfl⟩
  obtain ⟨y, hy, e⟩ := List.mem_map.mp hx
  exact h y ((k.2 r hr).2 y hy) e.symm
theorem due_len {rows : List (List V)} {l : List Dat} (k : RwOk rows) (h : 4 < l.length) : dueL rows l = false := by
  unfold dueL
  refine decide_eq_false ?_
  rintro ⟨r, hr, rfl⟩
  rw [List.length_map] at h
  have := (k.2 r hr).1
  omega
end UP

set_option Elab.async false
set_option linter.all false
set_option maxRecDepth 100000
set_option maxHeartbeats 4000000
set_option pp.maxSteps 600
namespace UP
open PySem PySem.Spec PyProof.Rows L2
theorem op_inDK {X : Cx} {K : PySem.W.Frag} (h : X.K = K) (hu : X.A.units + 65 < cLine) : OpR X (compareOp .In) (rInD K) := h ▸ op_inD hu
theorem room65 {A : Around} {k : Nat} (hr : Room k A) : A.units + 65 < cLine := by
  have := hr.un
  omega
def Dat.isS : Dat → Bool
  | .str _ => true
  | _ => false
def Dat.siB (d : Dat) : Bool := d.isS || d.isI
def Dat.flat4 (d : Dat) : Bool := match d.parts with
  | some l => decide (l.length ≤ 4) && (l.map Dat.siB).all fun b => b
  | none => false
theorem kind_str {k : Str} (h : KindOk k) : PyData.strOk k = true := by
  have := (nice_str h).1
  rw [PyData.canLay0] at this
  exact this
theorem rs_ok {cs : List Run} {st : Option Run} (ok : CtOk cs) (sb : StB st) : RwOk (rsR cs st) := by
  refine ⟨rs_len30 ok, fun r hr => ⟨?_, fun y hy => ?_⟩⟩
  · have := rs_three r hr
    omega
  · rcases (rs_fl ok sb r hr).2 y hy with ⟨z, rfl, k⟩ | ⟨n, rfl, _⟩
    · exact .inl ⟨z, rfl, kind_str k⟩
    · exact .inr ⟨n, rfl⟩
theorem si_vd {y : V} (h : SI y) : (vD y).siB = true := by
  rcases h with ⟨z, rfl, _⟩ | ⟨n, rfl⟩ <;> rfl
theorem sib_nb {x : Dat} (h : x.siB = true) : x.bB = none := by
  cases x with
  | bl b => cases h
  | _ => rfl
theorem flat_due {rows : List (List V)} {d : Dat} {l : List Dat} (k : RwOk rows) (hd : d.parts = some l) (h : d.flat4 = false) : dueL rows l = false := by
  unfold dueL
  refine decide_eq_false ?_
  rintro ⟨r, hr, e⟩
  have : d.flat4 = true := by
    unfold Dat.flat4
    rw [hd]
    show (decide (l.length ≤ 4) && (l.map Dat.siB).all fun b => b) = true
    rw [e, List.length_map, decide_eq_true (k.2 r hr).1, Bool.true_and, List.all_eq_true]
    intro b hb
    obtain ⟨x, hx, rfl⟩ := List.mem_map.mp hb
    obtain ⟨y, hy, rfl⟩ := List.mem_map.mp hx
    exact si_vd ((k.2 r hr).2 y hy)
  rw [h] at this
  cases this
section
variable {P : Program} {w : World} {K : PySem.W.Frag} {mg : Str → Option Value} {base : Heap}
theorem Rp.isStr {H : Hp} {v : V} {d : Dat} (h : Rp H v d) : ∃ t, TyX K H v t ∧ PySem.W.kitOne K t (.type "str") = some d.isS := by
  cases h with
  | non => exact ⟨_, .base .non, kit_ty (show kitB "NoneType" "str" = some false by decide +kernel)⟩
  | bl b => exact ⟨_, .base (.bl b), kit_ty (show kitB "bool" "str" = some false by decide +kernel)⟩
  | int n => exact ⟨_, .base (.int n), kit_ty (show kitB "int" "str" = some false by decide +kernel)⟩
  | str z => exact ⟨_, .base (.str z), kit_ty (show kitB "str" "str" = some true by decide +kernel)⟩
  | dic e => exact ⟨_, .base (.dK e), kit_ty (show kitB "dict" "str" = some false by decide +kernel)⟩
  | lst e _ => exact ⟨_, .base (.lst e), kit_ty (show kitB "list" "str" = some false by decide +kernel)⟩
  | tup e _ => exact ⟨_, .base (.tup e), kit_ty (show kitB "tuple" "str" = some false by decide +kernel)⟩
/-! is_flat: slots 0:value 1:part -/
abbrev s_is_flat : Stmt := topS 26
theorem sc_is_flat : FnScope ["value", "part"] ["value"] (defScope s_is_flat) := ⟨rfl, rfl, rfl, by decide +kernel, rfl, by decide +kernel, by decide +kernel⟩
def spD_is_flat : Sp := fun vs H Q _ => ∃ (v : V) (d : Dat), vs = [v] ∧ Rp H v d ∧ ∀ H', Same H H' → Q (.bl d.flat4) H'
theorem okD_is_flat (D : Df K mg "is_flat" s_is_flat) (T : Tx mg) (G_is_listed : Has P w K mg base 1 "is_listed" ["value", "most"] spD_is_listed) (G_is_whole : Has P w K mg base 1 "is_whole" ["value"] spD_is_whole) : Has P w K mg base 2 "is_flat" ["value"] spD_is_flat := by
  refine has_of D sc_is_flat (fun _ _ _ _ _ _ us hl => match us, hl with | [_], _ => rfl) (fun vs H Q E h => ?_) (fun f cdv A outer s H vs Q E hr h => ?_)
  · obtain ⟨_, _, rfl, _⟩ := h
    rfl
  · obtain ⟨v, d, rfl, hv, q⟩ := h
    refine ⟨_, (pss_one (ps_ret (pe_and (pe_callH G_is_listed (hr.mono (by omega)) (by rfl) (pa_cons (pv 0) (pa_cons pe_int pa_nil))) (pe_one (pe_callB (cr_all rfl) (by rfl) T.n_all (by decide +kernel) (pa_cons (pe_lc (own := [("part", 1)]) rfl sc_is_flat.nd (pi_seqV 0) (blkOk_by (N := ["value", "part"]) (sc := defScope s_is_flat) (by decide +kernel)) (fun _ _ _ _ _ => (pg_name (i := 1) sc_is_flat.nd rfl (by first | exact Or.inl rfl | exact Or.inr rfl))) (fun _ _ _ _ _ => pts_nil) (fun _ _ _ _ _ => (pe_or (pe_callB (call_isiK (K := K) rfl) (by rfl) T.n_isinstance (by decide +kernel) (pa_cons (pv 1) (pa_cons (pe_bltn (v := .ty "str") (by rfl) T.n_str (by decide +kernel) rfl) pa_nil))) (pe_one (pe_callH G_is_whole (hr.mono (by omega)) (by rfl) (pa_cons (pv 1) pa_nil)))))) pa_nil)))))), ?_⟩
    refine ⟨_, rfl, v, d, 4, rfl, hv, fun H1 s1 => ⟨_, rfl, ?_⟩⟩
    cases hd : d.parts with
    | none =>
      have e1 : d.listed 4 = false := by unfold Dat.listed; rw [hd]
      have e2 : d.flat4 = false := by unfold Dat.flat4; rw [hd]
      rw [e1]
      rw [e2] at q
      exact iteF (q _ s1)
    | some l =>
      have e1 : d.listed 4 = decide (l.length ≤ 4) := by
        unfold Dat.listed
        rw [hd]
        exact decide_eq_decide.mpr ⟨fun h => by omega, fun h => by omega⟩
      have e2 : d.flat4 = (decide (l.length ≤ 4) && (l.map Dat.siB).all fun b => b) := by unfold Dat.flat4; rw [hd]
      rw [e1]
      rw [e2] at q
      by_cases c : l.length ≤ 4
      · rw [decide_eq_true c] at q ⊢
        rw [Bool.true_and] at q
        obtain ⟨a, xs, rfl, hx, hp⟩ := (hv.same s1).seq hd
        have lx : xs.length = l.length := Paired.len hp
        refine iteT ⟨a, xs, rfl, hx, fun J wk L nL => lc_wk wk (fun i H' => Same H1 H' ∧ H' L = some (.lst (((l.map Dat.siB).take i).map V.bl))) (fun _ _ p => p.1) ⟨same_upd nL, upd_same⟩ (fun i x H2 ex p => ?_) (fun H2 p => ?_)⟩
        · obtain ⟨sm, hL⟩ := p
          obtain ⟨r, er, hr1⟩ := Paired.at hp ex
          have hr2 := hr1.same sm
          have hi : i < xs.length := (List.getElem?_eq_some_iff.mp ex).1
          have fin : ∃ acc, H2 L = some (.lst acc) ∧ acc.length < sizeLine ∧ (Same H1 (upd H2 L (.lst (acc ++ [V.bl r.siB]))) ∧ upd H2 L (.lst (acc ++ [V.bl r.siB])) L = some (.lst (((l.map Dat.siB).take (i + 1)).map V.bl))) := by
            refine ⟨_, hL, ?_, same_grow nL sm, ?_⟩
            · simp only [List.length_map, List.length_take]
              exact small (by omega)
            · rw [upd_same, take_snoc (x := r.siB) (by rw [List.getElem?_map, er]; rfl), List.map_append]
              rfl
          obtain ⟨tv, t1, t2⟩ := hr2.isStr (K := K)
          cases es : r.isS with
          | true =>
            rw [es] at t2
            rw [show r.siB = true by unfold Dat.siB; rw [es]; rfl] at fin
            exact ⟨rfl, yesT ⟨_, rfl, _, _, _, _, true, rfl, .ty "str", t1, t2, true, rfl, iteT fin⟩⟩
          | false =>
            rw [es] at t2
            rw [show r.siB = r.isI by unfold Dat.siB; rw [es]; rfl] at fin
            exact ⟨rfl, yesT ⟨_, rfl, _, _, _, _, false, rfl, .ty "str", t1, t2, false, rfl, iteF ⟨_, rfl, x, r, rfl, hr2, fin⟩⟩⟩
        · obtain ⟨sm, hL⟩ := p
          rw [List.take_of_length_le (by rw [List.length_map]; omega)] at hL
          exact ⟨L, _, rfl, .of hL, q _ (s1.trans sm)⟩
      · rw [decide_eq_false c] at q ⊢
        exact iteF (q _ s1)
/-! shows_against: slots 0:counts 1:state 2:value 3:reasons -/
abbrev s_shows_against : Stmt := topS 29
theorem sc_shows_against : FnScope ["counts", "state", "value", "reasons"] ["counts", "state", "value"] (defScope s_shows_against) := ⟨rfl, rfl, rfl, by decide +kernel, rfl, by decide +kernel, by decide +kernel⟩
def spD_shows_against : Sp := fun vs H Q _ => ∃ (v u x : V) (cs : List Run) (st : Option Run) (d : Dat), vs = [v, u, x] ∧ RunsG H v cs ∧ CtOk cs ∧ StG H u st ∧ StB st ∧ Rp H x d ∧ ClD (rsR cs st) d ∧ ∀ H', Same H H' → Q (.bl (dueD (rsR cs st) d)) H'
theorem okD_shows_against (D : Df K mg "shows_against" s_shows_against) (T : Tx mg) (G_checked_counts : Has P w K mg base 5 "checked_counts" ["counts"] sp_checked_counts) (G_checked_state : Has P w K mg base 3 "checked_state" ["state"] sp_checked_state) (G_reasons_in : Has P w K mg base 3 "reasons_in" ["counts", "state"] sp_reasons_in) (G_is_flat : Has P w K mg base 2 "is_flat" ["value"] spD_is_flat) :
    Has P w K mg base 6 "shows_against" ["counts", "state", "value"] spD_shows_against := by
  refine has_of D sc_shows_against (fun _ _ _ _ _ _ us hl => match us, hl with | [_, _, _], _ => rfl) (fun vs H Q E h => ?_) (fun f cdv A outer s H vs Q E hr h => ?_)
  · obtain ⟨_, _, _, _, _, _, rfl, _⟩ := h
    rfl
  · obtain ⟨v, u, x, cs, st, d, rfl, hv, ok, hu, sb, hx, cl, q⟩ := h
    have ks : StOk st := fun r e => ⟨(sb r e).1, (sb r e).2.1⟩
    have rw1 := rs_ok ok sb
    refine ⟨_, (pss_cons (ps_set (i := 0) sc_shows_against.nd rfl (by first | exact Or.inl rfl | exact Or.inr rfl) (pe_callH G_checked_counts (hr.mono (by omega)) (by rfl) (pa_cons (pv 0) pa_nil)))
    (pss_cons (ps_set (i := 3) sc_shows_against.nd rfl (by first | exact Or.inl rfl | exact Or.inr rfl) (pe_callH G_reasons_in (hr.mono (by omega)) (by rfl) (pa_cons (pv 0) (pa_cons (pe_callH G_checked_state (hr.mono (by omega)) (by rfl) (pa_cons (pv 1) pa_nil)) pa_nil))))
    (pss_one (ps_ret (pe_and (pe_callH G_is_flat (hr.mono (by omega)) (by rfl) (pa_cons (pv 2) pa_nil)) (pe_one (pe_cmpR (op_inDK (K := K) rfl (room65 hr)) (pe_callTy call_tuple_of (by rfl) T.n_tuple (by decide +kernel) (pa_cons (pv 2) pa_nil)) (pv 3) (by with_unfolding_all rfl)))))))), ?_⟩
    refine ⟨_, rfl, v, cs, rfl, hv, ok, fun H1 p1 s1 n1 h1 => ?_⟩
    refine ⟨_, rfl, _, rfl, u, st, rfl, hu.same s1, ks, fun H2 v2 s2 h2 => ?_⟩
    refine ⟨p1, cs, v2, st, rfl, h1.same s2, ok.1, h2, fun H3 p3 s3 f3 r3 => ?_⟩
    have sA := s1.trans (s2.trans s3)
    refine ⟨_, rfl, x, d, rfl, hx.same sA, fun H4 s4 => ⟨_, rfl, ?_⟩⟩
    have sB := sA.trans s4
    cases hd : d.parts with
    | none =>
      have e1 : d.flat4 = false := by unfold Dat.flat4; rw [hd]
      have e2 : dueD (rsR cs st) d = false := by unfold dueD; rw [hd]
      rw [e1]
      rw [e2] at q
      exact iteF (q _ sB)
    | some l =>
      have e2 : dueD (rsR cs st) d = dueL (rsR cs st) l := by unfold dueD; rw [hd]
      rw [e2] at q
      cases ef : d.flat4 with
      | false =>
        rw [flat_due rw1 hd ef] at q
        exact iteF (q _ sB)
      | true =>
        have nb : ∀ y ∈ l, y.bB = none := by
          intro y hy
          unfold Dat.flat4 at ef
          rw [hd] at ef
          have ef : (decide (l.length ≤ 4) && (l.map Dat.siB).all fun b => b) = true := ef
          rw [Bool.and_eq_true, List.all_eq_true] at ef
          exact sib_nb (ef.2 _ (List.mem_map.mpr ⟨y, hy, rfl⟩))
        rw [← any_due rw1 nb] at q
        obtain ⟨nk, sh, _⟩ := cl_shaped rw1 cl hd
        obtain ⟨a, xs, rfl, hxs, hp⟩ := (hx.same sB).seq hd
        obtain ⟨zs, hz, pz⟩ := r3.same s4
        have pz2 : ∀ {H' : Hp}, Same H4 H' → DpAll K H' zs (Dat.pys ((rsR cs st).map rowD)) := fun s => rps_dp (rp_rows (tups_same s pz) fun r hr => (rw1.2 r hr).2) (nks_of fun e he => by
          obtain ⟨r, hr, rfl⟩ := List.mem_map.mp he
          exact (row_py (rw1.2 r hr).2).1)
        refine iteT ⟨_, rfl, a, xs, rfl, ?_⟩
        rcases hxs with hxs | hxs
        · refine .inl ⟨.of hxs, fun n nn => ⟨_, rfl, ?_⟩⟩
          have sn := same_upd (o := .tup xs) nn
          exact ⟨_, _, .tup (.of upd_same) (rps_dp (rps_same sn hp) nk), .lst (.of (sn _ _ hz)) (pz2 sn), sh, rows_shaped rw1, q _ (sB.trans sn)⟩
        · refine .inr ⟨.of hxs, _, rfl, ?_⟩
          exact ⟨_, _, .tup (.of hxs) (rps_dp hp nk), .lst (.of hz) (pz2 (Same.refl _)), sh, rows_shaped rw1, q _ sB⟩
end
end UP

set_option Elab.async false
set_option linter.all false
set_option maxRecDepth 100000
set_option maxHeartbeats 4000000
set_option pp.maxSteps 600
namespace UP
open PySem PySem.Spec PyProof.Rows L2
def cutD (l : List Dat) (lo hi : Option Int) : List Dat := (l.drop (HT.sIx l.length 0 lo)).take (HT.sIx l.length l.length hi - HT.sIx l.length 0 lo)
theorem cutD_mem {l : List Dat} {lo hi : Option Int} {x : Dat} (h : x ∈ cutD l lo hi) : x ∈ l := List.mem_of_mem_drop (List.mem_of_mem_take h)
theorem cutD_len (l : List Dat) (lo hi : Option Int) : (cutD l lo hi).length ≤ l.length := by
  unfold cutD
  rw [List.length_take, List.length_drop]
  omega
theorem paired_cut {F : V → Dat → Prop} {xs : List V} {l : List Dat} {lo hi : Option Int} (h : Paired F xs l) : Paired F (cutV xs lo hi) (cutD l lo hi) := by
  unfold cutV cutD
  rw [Paired.len h]
  exact Paired.takep _ (Paired.dropp _ h)
/-! ### slices of written values -/
def LitO (σ : L2.St) (H0 : Hp) (t : TO) (o : Option Int) : Prop := ∀ H (R : Option Int → Hp → Prop), Same H0 H → R o H → t σ H R
section
variable {σ : L2.St} {H0 : Hp} {K : PySem.W.Frag}
theorem lito_none : LitO σ H0 tNoPart none := fun H R _ q => q
theorem lito_var {i : Nat} {k : Int} (e : σ[i]? = some (some (.int k))) : LitO σ H0 (tPart (tVar i)) (some k) := fun H R _ q => ⟨_, e, k, rfl, q⟩
theorem lito_int {n : Int} : LitO σ H0 (tPart (tC (.int n))) (some n) := fun H R _ q => ⟨n, rfl, q⟩
theorem lito_neg {n : Int} : LitO σ H0 (tPart (tUn (rU fun i => V.int (-i)) (tC (V.int n)))) (some (-n)) := fun H R _ q => ⟨n, rfl, -n, rfl, q⟩
theorem lito_add {i : Nat} {k n : Int} (e : σ[i]? = some (some (.int k))) : LitO σ H0 (tPart (tOp (rI0 fun i j => V.int (i + j)) (tVar i) (tC (.int n)))) (some (k + n)) := fun H R _ q => ⟨_, e, k, n, rfl, rfl, _, rfl, q⟩
theorem lit_neg {n : Int} : Lit σ H0 (tUn (rU fun i => V.int (-i)) (tC (V.int n))) (.int (-n)) := lit_val (v := .int (-n)) (fun H Q q => ⟨n, rfl, q⟩) (fun H => .int _)
theorem lit_sapp {t u : TE} {a b : Str} (h1 : Lit σ H0 t (.str a)) (h2 : Lit σ H0 u (.str b)) (l : a.length + b.length ≤ sizeLine) : Lit σ H0 (tOp (fun x y H Q => ∃ i j, x = .str i ∧ y = .str j ∧ i.length + j.length ≤ sizeLine ∧ Q (.str (i ++ j)) H) t u) (.str (a ++ b)) := fun H Q s q => h1 H _ s fun H1 v s1 r1 => h2 H1 _ (s.trans s1) fun H2 w s2 r2 => by
  cases r1
  cases r2
  exact ⟨_, _, rfl, rfl, l, q _ _ (s1.trans s2) (.str _)⟩
theorem lit_add {t u : TE} {a b : Int} (h1 : Lit σ H0 t (.int a)) (h2 : Lit σ H0 u (.int b)) : Lit σ H0 (tOp (rI0 fun i j => V.int (i + j)) t u) (.int (a + b)) := fun H Q s q => h1 H _ s fun H1 v s1 r1 => h2 H1 _ (s.trans s1) fun H2 w s2 r2 => by
  cases r1
  cases r2
  exact ⟨_, _, rfl, rfl, q _ _ (s1.trans s2) (.int _)⟩
theorem lit_sub {t u : TE} {a b : Int} (h1 : Lit σ H0 t (.int a)) (h2 : Lit σ H0 u (.int b)) : Lit σ H0 (tOp (rI0 fun i j => V.int (i - j)) t u) (.int (a - b)) := fun H Q s q => h1 H _ s fun H1 v s1 r1 => h2 H1 _ (s.trans s1) fun H2 w s2 r2 => by
  cases r1
  cases r2
  exact ⟨_, _, rfl, rfl, q _ _ (s1.trans s2) (.int _)⟩
theorem lit_catN {t u : TE} {a b : List Dat} {i : Nat} {D : Ends} {rest : TS} (h1 : Lit σ H0 t (.lst a)) (h2 : Lit σ H0 u (.lst b)) (l : a.length + b.length ≤ 1000) (q : ∀ H1 p xs, Same H0 H1 → H1 p = none → Paired (Rp H1) xs (a ++ b) → rest D (σ.set i (some (.ref p))) (upd H1 p (.lst xs))) : tSeq (tAsg (tOp rCat t u) (gName i)) rest D σ H0 := h1 H0 _ (Same.refl _) fun H1 v s1 r1 => h2 H1 _ s1 fun H2 w s2 r2 => by
  cases r1.same s2 with
  | lst e1 p1 =>
    cases r2 with
    | lst e2 p2 =>
      refine ⟨_, _, _, _, rfl, rfl, e1, e2, ?_, fun p np => q _ _ _ (s1.trans s2) np (Paired.app p1 p2)⟩
      rw [Paired.len p1, Paired.len p2]
      exact smallE (by omega)
theorem lit_tcat {t u : TE} {a b : List Dat} (h1 : Lit σ H0 t (.tup a)) (h2 : Lit σ H0 u (.tup b)) (na : a ≠ []) (nb : b ≠ []) (l : a.length + b.length ≤ 1000) : Lit σ H0 (tOp (rCatT K) t u) (.tup (a ++ b)) := fun H Q s q => h1 H _ s fun H1 v s1 r1 => h2 H1 _ (s.trans s1) fun H2 w s2 r2 => by
  cases r1.same s2 with
  | tup e1 p1 =>
    cases r2 with
    | tup e2 p2 =>
      refine ⟨_, _, _, _, rfl, rfl, .of e1, .of e2, fun z => ?_, ?_, fun z => ?_, fun _ p np => q _ _ (s1.trans (s2.trans (same_upd np))) (.tup upd_same (rps_same (same_upd np) (Paired.app p1 p2)))⟩
      · have := Paired.len p1
        rw [z] at this
        exact na (List.eq_nil_of_length_eq_zero this.symm)
      · rw [Paired.len p1, Paired.len p2]
        exact smallE (by omega)
      · exfalso
        have := Paired.len p2
        rw [z] at this
        exact nb (List.eq_nil_of_length_eq_zero this.symm)
theorem lit_tcut {t : TE} {tl th : TO} {ds : List Dat} {lo hi : Option Int} (h : Lit σ H0 t (.tup ds)) (hl : LitO σ H0 tl lo) (hh : LitO σ H0 th hi) (nw : ¬ (HT.sIx ds.length 0 lo = 0 ∧ HT.sIx ds.length ds.length hi = ds.length)) : Lit σ H0 (tSl (rSlT K) t tl th) (.tup (cutD ds lo hi)) := fun H Q s q => h H _ s fun H1 v s1 r1 => hl H1 _ (s.trans s1) (hh H1 _ (s.trans s1) (by
  cases r1 with
  | tup e p =>
    refine ⟨_, _, rfl, .of e, ?_, fun a na => q _ _ (s1.trans (same_upd na)) (.tup upd_same (rps_same (same_upd na) (paired_cut p)))⟩
    rw [Paired.len p]
    exact nw))
theorem lit_tix0 {t : TE} {x : Dat} {ds : List Dat} (h : Lit σ H0 t (.tup (x :: ds))) : Lit σ H0 (tOp (rIxT K) t (tC (.int 0))) x := fun H Q s q => h H _ s fun H1 v s1 r1 => by
  cases r1 with
  | tup e p =>
    cases p with
    | cons h t => exact ⟨_, _, 0, _, rfl, rfl, .of e, atI_nat (j := 0) rfl, q _ _ s1 h⟩
theorem lit_lstN {ts : TA} {ds : List Dat} {i : Nat} {D : Ends} {rest : TS} (h : Lits σ H0 ts ds) (l : ds.length ≤ 1000) (q : ∀ H1 p xs, Same H0 H1 → H1 p = none → Paired (Rp H1) xs ds → rest D (σ.set i (some (.ref p))) (upd H1 p (.lst xs))) : tSeq (tAsg (tLst ts) (gName i)) rest D σ H0 := h H0 _ (Same.refl _) fun H1 vs s1 r => ⟨by rw [Paired.len r]; exact smallE (by omega), fun p np => q _ _ _ s1 np r⟩
end
def hid (sp : Addr) (H : Hp) : Hp := fun b => if b = sp then none else H b
theorem hid_same {q : Addr} {H : Hp} : Same (hid q H) H := fun b o e => by
  unfold hid at e
  by_cases c : b = q
  · rw [if_pos c] at e
    cases e
  · rw [if_neg c] at e
    exact e
theorem hid_upd {q : Addr} {H : Hp} {o : HO} : Same (hid q H) (hid q (upd H q o)) := fun b u e => by
  unfold hid at e ⊢
  by_cases c : b = q
  · rw [if_pos c] at e
    cases e
  · rw [if_neg c] at e ⊢
    rw [upd_ne c]
    exact e
theorem hid_mono {q : Addr} {H H' : Hp} (s : Same H H') : Same (hid q H) (hid q H') := fun b u e => by
  unfold hid at e ⊢
  by_cases c : b = q
  · rw [if_pos c] at e
    cases e
  · rw [if_neg c] at e ⊢
    exact s b u e
theorem hid_new {q : Addr} {H : Hp} {o : HO} (n : H q = none) : Same H (hid q (upd H q o)) := fun b u e => by
  have c : b ≠ q := fun z => by rw [z, n] at e; cases e
  unfold hid
  rw [if_neg c, upd_ne c]
  exact e
/-- the claims so far -/
def Fd (rows : List (List V)) (H : Hp) (q : Addr) (m : Nat) : Prop := ∃ xs F, H q = some (.lst xs) ∧ Paired (Rp (hid q H)) xs F ∧ F.length ≤ m ∧ ∀ e ∈ F, ClD rows e
theorem Fd.rp {rows : List (List V)} {H : Hp} {q : Addr} {m : Nat} (h : Fd rows H q m) : ∃ F, Rp H (.ref q) (.lst F) ∧ F.length ≤ m ∧ ∀ e ∈ F, ClD rows e := by
  obtain ⟨xs, F, e, p, l, k⟩ := h
  exact ⟨F, .lst e (rps_same hid_same p), l, k⟩
theorem Fd.new {rows : List (List V)} {H : Hp} {q : Addr} {xs : List V} {F : List Dat} {m : Nat} (n : H q = none) (p : Paired (Rp H) xs F) (l : F.length ≤ m) (k : ∀ e ∈ F, ClD rows e) : Fd rows (upd H q (.lst xs)) q m := ⟨xs, F, upd_same, rps_same (hid_new n) p, l, k⟩
theorem Fd.same {rows : List (List V)} {H H' : Hp} {q : Addr} {m : Nat} (s : Same H H') (h : Fd rows H q m) : Fd rows H' q m := by
  obtain ⟨xs, F, e, p, l, k⟩ := h
  exact ⟨xs, F, s _ _ e, rps_same (hid_mono s) p, l, k⟩
theorem cl_flat {rows : List (List V)} {e : Dat} {l : List Dat} (h : e.parts = some l) (n : l.length ≤ 5) (k : ∀ x ∈ l, AtD x) : ClD rows e := .inr ⟨l, h, n, .inl k⟩
theorem at_str {z : Str} (h : PyData.strOk z = true) : AtD (.str z) := ⟨rfl, (fun z => by cases z), fun u e => by cases e; exact h⟩
theorem at_int {n : Int} : AtD (.int n) := ⟨rfl, (fun z => by cases z), fun u e => by cases e⟩
theorem at_non : AtD .non := ⟨rfl, (fun z => by cases z), fun u e => by cases e⟩
theorem at_bl {b : Bool} : AtD (.bl b) := ⟨rfl, (fun z => by cases z), fun u e => by cases e⟩
/-- what a reason looks like -/
def ShR (r : List V) : Prop := (∃ z y, r = [.str z, y] ∧ (z = "unknown" ∨ z = "few" ∨ z = "parity") ∧ SI y) ∨ ∃ (k : Str) (n W : Int), r = [.str "majority", .str k, .int n, .int W] ∧ PyData.strOk k = true
theorem rs_shape {cs : List Run} {st : Option Run} (ok : CtOk cs) (sb : StB st) : ∀ r ∈ rsR cs st, ShR r := by
  intro ys h
  by_cases kn : knR cs st
  · rw [rs_kn kn] at h
    unfold genL at h
    rcases List.mem_append.mp h with h | h
    · rcases List.mem_append.mp h with h | h
      · obtain ⟨r, _, rfl⟩ := List.mem_map.mp h
        exact .inl ⟨_, _, rfl, .inr (.inl rfl), .inr ⟨_, rfl⟩⟩
      · unfold parL at h
        split at h
        · rw [List.mem_singleton.mp h]
          exact .inl ⟨_, _, rfl, .inr (.inr rfl), .inr ⟨_, rfl⟩⟩
        · cases h
    · split at h
      · obtain ⟨r, hr, rfl⟩ := List.mem_map.mp h
        refine .inr ⟨_, _, _, rfl, ?_⟩
        exact kind_str (cw_bd ok sb r (List.mem_filter.mp hr).1).1
      · cases h
  · cases st with
    | none => exact absurd (fun r h => by cases h) kn
    | some r =>
      rw [rs_unk (fun z => kn fun r' e => by cases e; exact z)] at h
      rw [List.mem_singleton.mp h]
      exact .inl ⟨_, _, rfl, .inl rfl, .inl ⟨_, rfl, kind_str (sb r rfl).1⟩⟩
end UP

set_option Elab.async false
set_option linter.all false
set_option maxRecDepth 100000
set_option maxHeartbeats 4000000
set_option pp.maxSteps 500
namespace UP
open PySem PySem.Spec PyProof.Rows L2
theorem dp_runsF {K : PySem.W.Frag} {H : Hp} : ∀ {xs : List V} {rs : List Run}, Paired (RunV H) xs rs → DpAll K H xs (rs.map dRun)
  | _, _, .nil => .nil
  | _, _, .cons h t => .cons (dp_run h) (dp_runsF t)
theorem le_any {a b : Nat} (h : Nat.ble a b = true) : a ≤ b := Nat.le_of_ble_eq_true h
section
variable {σ : L2.St} {H0 : Hp} {K : PySem.W.Frag}
theorem lt2 {t u : TE} {x y : Dat} (h1 : Lit σ H0 t x) (h2 : Lit σ H0 u y) : Lit σ H0 (tTup (tCons t (tCons u tNil))) (.tup [x, y]) := lit_tup (lits_cons h1 (lits_cons h2 lits_nil)) (Nat.le_of_ble_eq_true rfl)
theorem lt4 {t u v w : TE} {x y z d : Dat} (h1 : Lit σ H0 t x) (h2 : Lit σ H0 u y) (h3 : Lit σ H0 v z) (h4 : Lit σ H0 w d) : Lit σ H0 (tTup (tCons t (tCons u (tCons v (tCons w tNil))))) (.tup [x, y, z, d]) := lit_tup (lits_cons h1 (lits_cons h2 (lits_cons h3 (lits_cons h4 lits_nil)))) (Nat.le_of_ble_eq_true rfl)
theorem cl_app {rows : List (List V)} {F ds : List Dat} (h1 : ∀ e ∈ F, ClD rows e) (h2 : ∀ e ∈ ds, ClD rows e) : ∀ e ∈ F ++ ds, ClD rows e := fun e he => (List.mem_append.mp he).elim (h1 e) (h2 e)
theorem Fd.weak {rows : List (List V)} {H : Hp} {q : Addr} {m m' : Nat} (h : Fd rows H q m) (l : m ≤ m') : Fd rows H q m' := by
  obtain ⟨xs, F, e, p, n, k⟩ := h
  exact ⟨xs, F, e, p, Nat.le_trans n l, k⟩
theorem cat_fd {rows : List (List V)} {q : Addr} {m m' i j : Nat} {u : TE} {ds : List Dat} {D : Ends} {rest : TS} (h1 : Fd rows H0 q m) (hq : σ[j]? = some (some (.ref q))) (h2 : Lit σ H0 u (.lst ds)) (hd : ∀ e ∈ ds, ClD rows e) (l : m + ds.length ≤ m') (l2 : m' ≤ 1000) (k : ∀ H1 q1, Same H0 H1 → H0 q1 = none → Fd rows H1 q1 m' → rest D (σ.set i (some (.ref q1))) H1) : tSeq (tAsg (tOp rCat (tVar j) u) (gName i)) rest D σ H0 := by
  obtain ⟨F, rF, lF, kF⟩ := h1.rp
  refine lit_catN (lit_var hq rF) h2 (by omega) fun H1 p xs s1 n1 p1 => k _ p (s1.trans (same_upd n1)) (s1.free n1) (Fd.new n1 p1 ?_ (cl_app kF hd))
  rw [List.length_append]
  omega
theorem cat_fd1 {rows : List (List V)} {q : Addr} {m m' i j : Nat} {u : TE} {ds : List Dat} {D : Ends} (h1 : Fd rows H0 q m) (hq : σ[j]? = some (some (.ref q))) (h2 : Lit σ H0 u (.lst ds)) (hd : ∀ e ∈ ds, ClD rows e) (l : m + ds.length ≤ m') (l2 : m' ≤ 1000) (k : ∀ H1 q1, Same H0 H1 → H0 q1 = none → Fd rows H1 q1 m' → D.nx (σ.set i (some (.ref q1))) H1) : tAsg (tOp rCat (tVar j) u) (gName i) D σ H0 :=
  cat_fd (rest := fun D σ H => D.nx σ H) h1 hq h2 hd l l2 k
theorem cat_ret {rows : List (List V)} {q : Addr} {m m' j : Nat} {u : TE} {ds : List Dat} {D : Ends} (h1 : Fd rows H0 q m) (hq : σ[j]? = some (some (.ref q))) (h2 : Lit σ H0 u (.lst ds)) (hd : ∀ e ∈ ds, ClD rows e) (l : m + ds.length ≤ m') (l2 : m' ≤ 1000) (k : ∀ H1 q1, Same H0 H1 → Fd rows H1 q1 m' → D.rt (.ref q1) H1) : tRet (tOp rCat (tVar j) u) D σ H0 := by
  obtain ⟨F, rF, lF, kF⟩ := h1.rp
  show (tVar j) σ H0 (fun x H1 => u σ H1 fun y H2 => rCat x y H2 D.rt)
  refine (show Lit σ H0 (tVar j) (.lst F) from lit_var hq rF) H0 _ (Same.refl _) fun H1 v s1 r1 => h2 H1 _ s1 fun H2 w s2 r2 => ?_
  cases r1.same s2 with
  | lst e1 p1 =>
    cases r2 with
    | lst e2 p2 =>
      refine ⟨_, _, _, _, rfl, rfl, e1, e2, ?_, fun p np => k _ _ (s1.trans (s2.trans (same_upd np))) (Fd.new np (Paired.app p1 p2) ?_ (cl_app kF hd))⟩
      · rw [Paired.len p1, Paired.len p2]
        exact smallE (by omega)
      · rw [List.length_append]
        omega
abbrev fiveT (K : PySem.W.Frag) : TE := tLst (tCons (tVar 7) (tCons (tOp (rCatT K) (tVar 7) (tTup (tCons (tC (.int 0)) tNil))) (tCons (tSl (rSlT K) (tVar 7) tNoPart (tPart (tUn (rU fun i => V.int (-i)) (tC (.int 1))))) (tCons (tOp (rCatT K) (tSl (rSlT K) (tVar 7) tNoPart (tPart (tUn (rU fun i => V.int (-i)) (tC (.int 1))))) (tTup (tCons (tC .non) tNil))) (tCons (tOp (rCatT K) (tTup (tCons (tOp (fun x y H Q => ∃ i j, x = .str i ∧ y = .str j ∧ i.length + j.length ≤ sizeLine ∧ Q (.str (i ++ j)) H) (tOp (rIxT K) (tVar 7) (tC (.int 0))) (tC (.str "s"))) tNil)) (tSl (rSlT K) (tVar 7) (tPart (tC (.int 1))) tNoPart)) tNil)))))
theorem lit_five {l i1 tl : List Dat} {z : Str} (L7 : Lit σ H0 (tVar 7) (.tup l)) (el : l = .str z :: tl) (c1 : cutD l none (some (-1)) = i1) (c2 : cutD l (some 1) none = tl) (n0 : l ≠ []) (n1 : i1 ≠ []) (n2 : tl ≠ []) (w1 : ¬ (HT.sIx l.length 0 none = 0 ∧ HT.sIx l.length l.length (some (-1)) = l.length)) (w2 : ¬ (HT.sIx l.length 0 (some 1) = 0 ∧ HT.sIx l.length l.length none = l.length)) (hz : z.length ≤ 20) (l4 : l.length ≤ 4) (l5 : i1.length ≤ 4) (l6 : tl.length ≤ 4) :
    Lit σ H0 (fiveT K) (.lst [.tup l, .tup (l ++ [.int 0]), .tup i1, .tup (i1 ++ [.non]), .tup ([.str (z ++ "s")] ++ tl)]) := by
  have L7' := L7
  rw [el] at L7'
  have S1 := lit_tcut (K := K) L7 lito_none lito_neg w1
  rw [c1] at S1
  have S2 := lit_tcut (K := K) L7 lito_int lito_none w2
  rw [c2] at S2
  refine lit_lst (lits_cons L7 (lits_cons (lit_tcat L7 (lit_tup (lits_cons lit_int lits_nil) (Nat.le_of_ble_eq_true rfl)) n0 (fun z => by cases z) (by show l.length + 1 ≤ 1000; omega)) (lits_cons S1 (lits_cons (lit_tcat S1 (lit_tup (lits_cons lit_non lits_nil) (Nat.le_of_ble_eq_true rfl)) n1 (fun z => by cases z) (by show i1.length + 1 ≤ 1000; omega)) (lits_cons (lit_tcat (lit_tup (lits_cons (lit_sapp (lit_tix0 L7') lit_str ?_) lits_nil) (Nat.le_of_ble_eq_true rfl)) S2 (fun z => by cases z) n2 (by show 1 + tl.length ≤ 1000; omega)) lits_nil))))) (Nat.le_of_ble_eq_true rfl)
  have : ("s" : Str).length = 1 := by decide +kernel
  rw [this]
  exact smallE (by omega)
theorem cl_five {rows : List (List V)} {l i1 tl : List Dat} {z : Str} (h : ∀ x ∈ l, AtD x) (h1 : ∀ x ∈ i1, x ∈ l) (h2 : ∀ x ∈ tl, x ∈ l) (hz : PyData.strOk (z ++ "s") = true) (l4 : l.length ≤ 4) (l5 : i1.length ≤ 4) (l6 : tl.length ≤ 4) : ∀ e ∈ [Dat.tup l, .tup (l ++ [.int 0]), .tup i1, .tup (i1 ++ [.non]), .tup ([.str (z ++ "s")] ++ tl)], ClD rows e := fun e he => by
  simp only [List.mem_cons, List.not_mem_nil, or_false] at he
  rcases he with e | e | e | e | e <;> rw [e]
  · exact cl_flat rfl (by omega) h
  · refine cl_flat rfl (by rw [List.length_append]; show l.length + 1 ≤ 5; omega) fun x hx => ?_
    rcases List.mem_append.mp hx with z | z
    · exact h x z
    · rw [List.mem_singleton.mp z]; exact at_int
  · exact cl_flat rfl (by omega) fun x hx => h x (h1 x hx)
  · refine cl_flat rfl (by rw [List.length_append]; show i1.length + 1 ≤ 5; omega) fun x hx => ?_
    rcases List.mem_append.mp hx with z | z
    · exact h x (h1 x z)
    · rw [List.mem_singleton.mp z]; exact at_non
  · refine cl_flat rfl (by rw [List.length_append]; show 1 + tl.length ≤ 5; omega) fun x hx => ?_
    rcases List.mem_append.mp hx with z | z
    · rw [List.mem_singleton.mp z]; exact at_str hz
    · exact h x (h2 x z)
theorem app_fd {rows : List (List V)} {q : Addr} {m j : Nat} {t : TE} {d : Dat} {D : Ends} (h1 : Fd rows H0 q m) (hq : σ[j]? = some (some (.ref q))) (h2 : ∀ Q : VK, (∀ u o, H0 u = none → (∀ G : Hp, G u = some o → Rp G (.ref u) d) → Q (.ref u) (upd H0 u o)) → t σ H0 Q) (hd : ClD rows d) (l : m < 1000) (k : ∀ H' o, Same H0 H' → Fd rows (upd H' q o) q (m + 1) → D.nx σ (upd H' q o)) : tDrop (tBM K "list" rAppend (tVar j) (tCons t tNil)) D σ H0 := by
  obtain ⟨xs, F, hx, hp, lF, kF⟩ := h1
  have lx := Paired.len hp
  refine ⟨_, hq, .inl ⟨rfl, _, SqL.of hx⟩, h2 _ fun u o nu r1 => ?_⟩
  have nq : u ≠ q := fun z => by rw [z, hx] at nu; cases nu
  have su := same_upd (o := o) nu
  refine ⟨q, xs, .ref u, rfl, rfl, su _ _ hx, small (by omega), k _ _ su ⟨_, F ++ [d], upd_same, Paired.app (rps_same ((hid_mono su).trans hid_upd) hp) (.cons (r1 _ ?_) .nil), ?_, cl_app kF fun e he => by rw [List.mem_singleton.mp he]; exact hd⟩⟩
  · unfold hid
    rw [if_neg nq, upd_ne nq, upd_same]
  · rw [List.length_append]
    show F.length + 1 ≤ m + 1
    omega
end
section
variable {P : Program} {w : World} {K : PySem.W.Frag} {mg : Str → Option Value} {base : Heap}
/-! _law_claims: slots 0:reel 1:counts 2:state 3:reasons 4:rest 5:found 6:total 7:reason 8:kind 9:number 10:name 11:count 12:other 13:one -/
abbrev s_law_claims : Stmt := topS 43
theorem sc_law_claims : FnScope ["reel", "counts", "state", "reasons", "rest", "found", "total", "reason", "kind", "number", "name", "count", "other", "one"] ["reel", "counts", "state", "reasons"] (defScope s_law_claims) := ⟨rfl, rfl, rfl, by decide +kernel, rfl, by decide +kernel, by decide +kernel⟩
def sp_law_claims : Sp := fun vs H Q _ => ∃ (p0 v : V) (a L : Addr) (cs : List Run) (st : Option Run), vs = [p0, .ref a, v, .ref L] ∧ Runs H a cs ∧ CtOk cs ∧ StV H v st ∧ StB st ∧ RefL H L (rsR cs st) ∧ ∀ H' q, Same H H' → Fd (rsR cs st) H' q 1000 → Q (.ref q) H'
theorem ok_law_claims (D : Df K mg "_law_claims" s_law_claims) (T : Tx mg) : Has P w K mg base 1 "_law_claims" ["reel", "counts", "state", "reasons"] sp_law_claims := by
  refine has_of D sc_law_claims (fun _ _ _ _ _ _ us hl => match us, hl with | [_, _, _, _], _ => rfl) (fun vs H Q E h => ?_) (fun f cdv A outer s₀ H vs Q E hr h => ?_)
  · obtain ⟨_, _, _, _, _, _, rfl, _⟩ := h
    rfl
  · obtain ⟨p0, v, a, L, cs, st, rfl, hR, ok, hv, sb, hL, q⟩ := h
    obtain ⟨xs, hx, hp⟩ := id hR
    have lx : xs.length = cs.length := Paired.len hp
    have l12 := ok.1
    have rw1 := rs_ok ok sb
    have sh := rs_shape ok sb
    have okk : ∀ r ∈ cs, PyData.strOk r.1 = true := fun r hr => kind_str (ok.2.1 r hr).1
    generalize rsR cs st = rows at *
    refine ⟨_, (pss_cons (ps_asg (pe_ifExp (pt_cmpR (op_neD hr.units) (pv 1) (pe_lst pa_nil) (nomark _)) (pe_tup (pa_cons (pe_ix ix_tup (pe_ix ix_list (pv 1) pe_int (fun _ _ => rfl)) pe_int (fun _ _ => rfl)) (pa_cons (pe_ix ix_tup (pe_ix ix_list (pv 1) pe_int (fun _ _ => rfl)) pe_int (fun _ _ => rfl)) pa_nil))) (pe_tup (pa_cons pe_str (pa_cons pe_int pa_nil)))) (pg_tup rfl (pgs_cons (pg_name (i := 8) sc_law_claims.nd rfl (by first | exact Or.inl rfl | exact Or.inr rfl)) (pgs_cons (pg_name (i := 9) sc_law_claims.nd rfl (by first | exact Or.inl rfl | exact Or.inr rfl)) pgs_nil))))
    (pss_cons (ps_set (i := 4) sc_law_claims.nd rfl (by first | exact Or.inl rfl | exact Or.inr rfl) (pe_op op_sub (pe_callB (cr_sum rfl) (by rfl) T.n_sum (by decide +kernel) (pa_cons (pe_lc (own := [("one", 13)]) rfl sc_law_claims.nd (pi_list (pv 1)) (blkOk_by (N := ["reel", "counts", "state", "reasons", "rest", "found", "total", "reason", "kind", "number", "name", "count", "other", "one"]) (sc := defScope s_law_claims) (by decide +kernel)) (fun _ _ _ _ _ => (pg_name (i := 13) sc_law_claims.nd rfl (by first | exact Or.inl rfl | exact Or.inr rfl))) (fun _ _ _ _ _ => pts_nil) (fun _ _ _ _ _ => (pe_ix (ix_tupK (K := K) rfl) (pv 13) pe_int (fun _ _ => rfl)))) pa_nil)) (pe_ifExp (pt_cmpR op_notN (pv 2) pe_non (nomark _)) (pe_ix ix_tup (pv 2) pe_int (fun _ _ => rfl)) pe_int)))
    (pss_cons (ps_set (i := 5) sc_law_claims.nd rfl (by first | exact Or.inl rfl | exact Or.inr rfl) (pe_lst (pa_cons (pe_tup (pa_cons pe_str (pa_cons (pv 8) pa_nil))) (pa_cons (pe_tup (pa_cons pe_str (pa_cons pe_str pa_nil))) (pa_cons (pe_tup (pa_cons pe_str (pa_cons (pv 9) pa_nil))) (pa_cons (pe_tup (pa_cons pe_str (pa_cons (pv 4) pa_nil))) (pa_cons (pe_tup (pa_cons pe_str (pa_cons (pe_op op_add (pv 4) pe_int) pa_nil))) pa_nil)))))))
    (pss_cons (ps_set (i := 6) sc_law_claims.nd rfl (by first | exact Or.inl rfl | exact Or.inr rfl) (pe_callB (cr_sum rfl) (by rfl) T.n_sum (by decide +kernel) (pa_cons (pe_lc (own := [("one", 13)]) rfl sc_law_claims.nd (pi_list (pv 1)) (blkOk_by (N := ["reel", "counts", "state", "reasons", "rest", "found", "total", "reason", "kind", "number", "name", "count", "other", "one"]) (sc := defScope s_law_claims) (by decide +kernel)) (fun _ _ _ _ _ => (pg_name (i := 13) sc_law_claims.nd rfl (by first | exact Or.inl rfl | exact Or.inr rfl))) (fun _ _ _ _ _ => pts_nil) (fun _ _ _ _ _ => (pe_ix (ix_tupK (K := K) rfl) (pv 13) pe_int (fun _ _ => rfl)))) pa_nil)))
    (pss_cons (ps_set (i := 5) sc_law_claims.nd rfl (by first | exact Or.inl rfl | exact Or.inr rfl) (pe_op op_cat (pv 5) (pe_lst (pa_cons (pe_tup (pa_cons pe_str (pa_cons (pe_op op_add (pv 4) pe_int) pa_nil))) (pa_cons (pe_tup (pa_cons pe_str (pa_cons (pe_op op_sub (pv 4) pe_int) pa_nil))) (pa_cons (pe_tup (pa_cons pe_str (pa_cons (pe_op op_sub pe_int (pv 4)) pa_nil))) (pa_cons (pe_tup (pa_cons pe_str (pa_cons (pv 6) pa_nil))) pa_nil)))))))
    (pss_cons (ps_set (i := 5) sc_law_claims.nd rfl (by first | exact Or.inl rfl | exact Or.inr rfl) (pe_op op_cat (pv 5) (pe_lst (pa_cons (pe_tup (pa_cons pe_str (pa_cons (pe_op op_sub (pv 6) (pv 4)) pa_nil))) (pa_cons (pe_tup (pa_cons pe_str (pa_cons (pe_op op_add (pv 9) pe_int) pa_nil))) pa_nil)))))
    (pss_cons (ps_for PassesOwn.never rfl (pi_list (pe_slice sl_list (pv 1) po_none (po_some pe_int))) (pg_tup rfl (pgs_cons (pg_name (i := 10) sc_law_claims.nd rfl (by first | exact Or.inl rfl | exact Or.inr rfl)) (pgs_cons (pg_name (i := 11) sc_law_claims.nd rfl (by first | exact Or.inl rfl | exact Or.inr rfl)) pgs_nil)))
      (pss_one (ps_set (i := 5) sc_law_claims.nd rfl (by first | exact Or.inl rfl | exact Or.inr rfl) (pe_op op_cat (pv 5) (pe_lst (pa_cons (pe_tup (pa_cons pe_str (pa_cons (pv 10) (pa_cons (pv 11) (pa_cons (pv 4) pa_nil))))) (pa_cons (pe_tup (pa_cons pe_str (pa_cons (pv 11) pa_nil))) pa_nil)))))))
    (pss_cons (ps_for PassesOwn.never rfl (pi_list (pv 3)) (pg_name (i := 7) sc_law_claims.nd rfl (by first | exact Or.inl rfl | exact Or.inr rfl))
      (pss_one (ps_if (pt_cmpR op_eq (pe_ix ix_tup (pv 7) pe_int (fun _ _ => rfl)) pe_str (nomark _)) (pss_cons (ps_par (i := 10) (j := 11) (by rfl) sc_law_claims.nd rfl rfl (by decide) rfl rfl (pa_cons (pe_ix ix_tup (pv 7) pe_int (fun _ _ => rfl)) (pa_cons (pe_ix ix_tup (pv 7) pe_int (fun _ _ => rfl)) pa_nil)) (by rfl))
    (pss_cons (ps_for PassesOwn.never rfl (pi_tup (pe_tup (pa_cons (pe_op op_sub (pv 11) pe_int) (pa_cons (pe_op op_add (pv 11) pe_int) (pa_cons (pv 4) (pa_cons (pv 6) pa_nil)))))) (pg_name (i := 12) sc_law_claims.nd rfl (by first | exact Or.inl rfl | exact Or.inr rfl))
      (pss_one (ps_expr (pe_bm PySem.F.plainAttrs_list PySem.F.slot_list_append PySem.F.type_list_append mt_append (pv 5) (pa_cons (pe_tup (pa_cons pe_str (pa_cons (pv 10) (pa_cons (pv 12) (pa_cons (pv 4) pa_nil))))) pa_nil)))))
    (pss_one (ps_set (i := 5) sc_law_claims.nd rfl (by first | exact Or.inl rfl | exact Or.inr rfl) (pe_op op_cat (pv 5) (pe_lst (pa_cons (pe_tup (pa_cons pe_str (pa_cons (pv 10) (pa_cons (pv 11) (pa_cons (pe_op op_sub (pv 4) pe_int) pa_nil))))) (pa_cons (pe_tup (pa_cons pe_str (pa_cons (pv 10) (pa_cons (pv 11) (pa_cons (pe_op op_add (pv 4) pe_int) pa_nil))))) pa_nil)))))))) pss_nil)))
    (pss_cons (ps_for PassesOwn.never rfl (pi_list (pv 3)) (pg_name (i := 7) sc_law_claims.nd rfl (by first | exact Or.inl rfl | exact Or.inr rfl))
      (pss_cons (ps_set (i := 5) sc_law_claims.nd rfl (by first | exact Or.inl rfl | exact Or.inr rfl) (pe_op op_cat (pv 5) (pe_lst (pa_cons (pv 7) (pa_cons (pe_op op_catT (pv 7) (pe_tup (pa_cons pe_int pa_nil))) (pa_cons (pe_slice sl_tup (pv 7) po_none (po_some (pe_un un_neg pe_int))) (pa_cons (pe_op op_catT (pe_slice sl_tup (pv 7) po_none (po_some (pe_un un_neg pe_int))) (pe_tup (pa_cons pe_non pa_nil))) (pa_cons (pe_op op_catT (pe_tup (pa_cons (pe_op op_add_str (pe_ix ix_tup (pv 7) pe_int (fun _ _ => rfl)) pe_str) pa_nil)) (pe_slice sl_tup (pv 7) (po_some pe_int) po_none)) pa_nil))))))))
    (pss_one (ps_expr (pe_bm PySem.F.plainAttrs_list PySem.F.slot_list_append PySem.F.type_list_append mt_append (pv 5) (pa_cons (pe_callTy call_list_of (by rfl) T.n_list (by decide +kernel) (pa_cons (pv 7) pa_nil)) pa_nil))))))
    (pss_one (ps_ret (pe_op op_cat (pv 5) (pe_lst (pa_cons pe_non (pa_cons pe_int (pa_cons pe_str (pa_cons (pe_tup pa_nil) (pa_cons (pe_lst pa_nil) (pa_cons (pe_tup (pa_cons pe_str pa_nil)) (pa_cons (pe_tup (pa_cons pe_str (pa_cons pe_bl pa_nil))) (pa_cons (pe_tup (pa_cons pe_str (pa_cons (pe_lst (pa_cons pe_str pa_nil)) pa_nil))) (pa_cons pe_dnewK (pa_cons (pe_tup (pa_cons (pv 3) pa_nil)) pa_nil))))))))))))))))))))))), ?_⟩
    refine seq_gen (fun σ' H' => ∃ k n, σ' = [some p0, some (.ref a), some v, some (.ref L), none, none, none, none, some (.str k), some (.int n), none, none, none, none] ∧ PyData.strOk k = true ∧ Same H H') (fun R hRr => ?_) (fun σ' H1 hO => ?_)
    · refine ⟨_, rfl, Nat.zero_le _, fun e ne => ?_⟩
      have se := same_upd (o := .lst []) ne
      refine ⟨.list (cs.map dRun), .list [], .lst (.of (se _ _ hx)) (dp_runsF (Paired.imp (fun _ _ z => RunV.same se z) hp)), .lst (.of upd_same) .nil, shaped_runs (fun r hr => (ok.2.1 r hr).1), by decide, _, rfl, ?_⟩
      rw [eqv_nil]
      cases cs with
      | nil =>
        refine iteN rfl ⟨(by show 2 ≤ sizeLine; decide), fun u nu => ?_⟩
        exact ⟨u, _, rfl, .of upd_same, rfl, _, _, rfl, _, _, rfl, rfl, hRr _ _ ⟨"a", 1, rfl, by decide +kernel, se.trans (same_upd nu)⟩⟩
      | cons r t =>
        cases hp with
        | cons h1 h2 =>
          obtain ⟨tr, rfl, ht⟩ := RunV.same se h1
          refine iteP rfl ⟨_, rfl, a, _, 0, _, rfl, rfl, .of (se _ _ hx), atI_nat (j := 0) rfl, tr, _, 0, _, rfl, rfl, .of ht, at0, _, rfl, a, _, 0, _, rfl, rfl, .of (se _ _ hx), atI_nat (j := 0) rfl, tr, _, 1, _, rfl, rfl, .of ht, at1, (by show 2 ≤ sizeLine; decide), fun u nu => ?_⟩
          exact ⟨u, _, rfl, .of upd_same, rfl, _, _, rfl, _, _, rfl, rfl, hRr _ _ ⟨r.1, r.2, rfl, okk r (List.mem_cons_self ..), se.trans (same_upd nu)⟩⟩
    obtain ⟨k, n, rfl, kk, s1⟩ := hO
    have sumS : ∀ {H1 : Hp} {Qs : Int → Hp → Prop}, Same H H1 → (∀ H2, Same H1 H2 → Qs (lenR cs) H2) → True := fun _ _ => trivial
    -- the rest
    refine seq_gen (fun σ' H' => σ' = [some p0, some (.ref a), some v, some (.ref L), some (.int (lenR cs - numR st)), none, none, none, some (.str k), some (.int n), none, none, none, none] ∧ Same H H') (fun R hRr => ?_) (fun σ' H2 hO => ?_)
    · have hx1 := s1 _ _ hx
      refine ⟨_, rfl, a, rfl, ⟨xs, .of hx1⟩, fun M nM => lc_list (K := K) (a := a) (xs := xs) (fun i H' => Same H1 H' ∧ H' M = some (.lst (((cs.map (·.2)).take i).map V.int))) ⟨same_upd nM, upd_same⟩ (fun i H' _ p => .of (p.1 _ _ hx1)) (fun i x H2 ex p => ?_) (fun H2 p => ?_)⟩
      · obtain ⟨sm, hM⟩ := p
        obtain ⟨r, er, hr1⟩ := Paired.at hp ex
        have hi : i < xs.length := (List.getElem?_eq_some_iff.mp ex).1
        obtain ⟨t, rfl, ht⟩ := RunV.same (s1.trans sm) hr1
        refine ⟨rfl, yesT ⟨_, rfl, t, _, 1, _, rfl, rfl, .of ht, at1, _, hM, ?_, same_grow nM sm, ?_⟩⟩
        · simp only [List.length_map, List.length_take]
          exact small (by omega)
        · rw [upd_same, take_snoc (x := r.2) (by rw [List.getElem?_map, er]; rfl), List.map_append]
          rfl
      obtain ⟨sm, hM⟩ := p
      rw [List.take_of_length_le (by rw [List.length_map]; omega)] at hM
      refine ⟨M, (cs.map (fun r : Run => r.2)), rfl, .of hM, ?_⟩
      rw [show (cs.map (fun r : Run => r.2)).sum = lenR cs from rfl]
      cases st with
      | none =>
        have hv : v = .non := hv
        subst hv
        exact ⟨_, rfl, rfl, _, rfl, iteN rfl ⟨_, _, rfl, rfl, hRr _ _ ⟨rfl, s1.trans sm⟩⟩⟩
      | some r =>
        obtain ⟨t, rfl, ht⟩ := StV.same (s1.trans sm) hv
        exact ⟨_, rfl, rfl, _, rfl, iteP rfl ⟨_, rfl, t, _, 1, _, rfl, rfl, .of ht, at1, _, _, rfl, rfl, hRr _ _ ⟨rfl, s1.trans sm⟩⟩⟩
    obtain ⟨rfl, s2⟩ := hO
    clear s1
    generalize lenR cs - numR st = rest at *
    -- the first five
    have Lk : ∀ {σ : L2.St} {H0 : Hp}, σ[8]? = some (some (.str k)) → Lit σ H0 (tVar 8) (.str k) := fun e => lit_var e (.str k)
    have Ln : ∀ {σ : L2.St} {H0 : Hp}, σ[9]? = some (some (.int n)) → Lit σ H0 (tVar 9) (.int n) := fun e => lit_var e (.int n)
    have Lr : ∀ {σ : L2.St} {H0 : Hp}, σ[4]? = some (some (.int rest)) → Lit σ H0 (tVar 4) (.int rest) := fun e => lit_var e (.int rest)
    have kU : PyData.strOk "unknown" = true := by decide +kernel
    have kO : PyData.strOk "other" = true := by decide +kernel
    have kF : PyData.strOk "few" = true := by decide +kernel
    have kP : PyData.strOk "parity" = true := by decide +kernel
    have kM : PyData.strOk "majority" = true := by decide +kernel
    have two : ∀ {x y : Dat}, AtD x → AtD y → ClD rows (.tup [x, y]) := fun h1 h2 => cl_flat rfl (by show 2 ≤ 5; decide) fun x hx => by
      simp only [List.mem_cons, List.not_mem_nil, or_false] at hx
      rcases hx with e | e
      · rw [e]; exact h1
      · rw [e]; exact h2
    have four : ∀ {x y z d : Dat}, AtD x → AtD y → AtD z → AtD d → ClD rows (.tup [x, y, z, d]) := fun h1 h2 h3 h4 => cl_flat rfl (by show 4 ≤ 5; decide) fun x hx => by
      simp only [List.mem_cons, List.not_mem_nil, or_false] at hx
      rcases hx with e | e | e | e
      · rw [e]; exact h1
      · rw [e]; exact h2
      · rw [e]; exact h3
      · rw [e]; exact h4
    refine lit_lstN (ds := [.tup [.str "unknown", .str k], .tup [.str "unknown", .str "other"], .tup [.str "few", .int n], .tup [.str "parity", .int rest], .tup [.str "parity", .int (rest + 1)]]) (lits_cons (lt2 lit_str (Lk rfl)) (lits_cons (lt2 lit_str lit_str) (lits_cons (lt2 lit_str (Ln rfl)) (lits_cons (lt2 lit_str (Lr rfl)) (lits_cons (lt2 lit_str (lit_add (Lr rfl) lit_int)) lits_nil))))) (Nat.le_of_ble_eq_true rfl) (fun H3 q3 xs3 s3 n3 p3 => ?_)
    have f3 : Fd rows (upd H3 q3 (.lst xs3)) q3 5 := Fd.new n3 p3 (Nat.le_of_ble_eq_true rfl) fun e he => by
      simp only [List.mem_cons, List.not_mem_nil, or_false] at he
      rcases he with e | e | e | e | e <;> rw [e]
      · exact two (at_str kU) (at_str kk)
      · exact two (at_str kU) (at_str kO)
      · exact two (at_str kF) at_int
      · exact two (at_str kP) at_int
      · exact two (at_str kP) at_int
    have s03 : Same H (upd H3 q3 (.lst xs3)) := s2.trans (s3.trans (same_upd n3))
    generalize upd H3 q3 (.lst xs3) = H4 at *
    clear s2 s3 n3 p3
    refine seq_gen (fun σ' H' => σ' = [some p0, some (.ref a), some v, some (.ref L), some (.int rest), some (.ref q3), some (.int (lenR cs)), none, some (.str k), some (.int n), none, none, none, none] ∧ Same H4 H') (fun R hRr => ?_) (fun σ' H5 hO => ?_)
    · have hx1 := s03 _ _ hx
      refine ⟨_, rfl, a, rfl, ⟨xs, .of hx1⟩, fun M nM => lc_list (K := K) (a := a) (xs := xs) (fun i H' => Same H4 H' ∧ H' M = some (.lst (((cs.map (·.2)).take i).map V.int))) ⟨same_upd nM, upd_same⟩ (fun i H' _ p => .of (p.1 _ _ hx1)) (fun i x H2 ex p => ?_) (fun H2 p => ?_)⟩
      · obtain ⟨sm, hM⟩ := p
        obtain ⟨r, er, hr1⟩ := Paired.at hp ex
        have hi : i < xs.length := (List.getElem?_eq_some_iff.mp ex).1
        obtain ⟨t, rfl, ht⟩ := RunV.same (s03.trans sm) hr1
        refine ⟨rfl, yesT ⟨_, rfl, t, _, 1, _, rfl, rfl, .of ht, at1, _, hM, ?_, same_grow nM sm, ?_⟩⟩
        · simp only [List.length_map, List.length_take]
          exact small (by omega)
        · rw [upd_same, take_snoc (x := r.2) (by rw [List.getElem?_map, er]; rfl), List.map_append]
          rfl
      obtain ⟨sm, hM⟩ := p
      rw [List.take_of_length_le (by rw [List.length_map]; omega)] at hM
      exact ⟨M, (cs.map (fun r : Run => r.2)), rfl, .of hM, hRr _ _ ⟨rfl, sm⟩⟩
    obtain ⟨rfl, s45⟩ := hO
    have f5 := f3.same s45
    have s05 := s03.trans s45
    clear s03 s45 f3
    generalize lenR cs = tot at *
    have Lt : ∀ {σ : L2.St} {H0 : Hp}, σ[6]? = some (some (.int tot)) → Lit σ H0 (tVar 6) (.int tot) := fun e => lit_var e (.int tot)
    refine cat_fd (m' := 9) f5 rfl (lit_lst (lits_cons (lt2 lit_str (lit_add (Lr rfl) lit_int)) (lits_cons (lt2 lit_str (lit_sub (Lr rfl) lit_int)) (lits_cons (lt2 lit_str (lit_sub lit_int (Lr rfl))) (lits_cons (lt2 lit_str (Lt rfl)) lits_nil)))) (Nat.le_of_ble_eq_true rfl)) (fun e he => ?_) (Nat.le_of_ble_eq_true rfl) (Nat.le_of_ble_eq_true rfl) (fun H6 q6 s6 n6 f6 => ?_)
    · simp only [List.mem_cons, List.not_mem_nil, or_false] at he
      rcases he with e | e | e | e <;> rw [e] <;> exact two (at_str kP) at_int
    refine cat_fd (m' := 11) f6 rfl (lit_lst (lits_cons (lt2 lit_str (lit_sub (Lt rfl) (Lr rfl))) (lits_cons (lt2 lit_str (lit_add (Ln rfl) lit_int)) lits_nil)) (Nat.le_of_ble_eq_true rfl)) (fun e he => ?_) (Nat.le_of_ble_eq_true rfl) (Nat.le_of_ble_eq_true rfl) (fun H7 q7 s7 n7 f7 => ?_)
    · simp only [List.mem_cons, List.not_mem_nil, or_false] at he
      rcases he with e | e <;> rw [e] <;> exact two (at_str kF) at_int
    have s07 := s05.trans (s6.trans s7)
    have hx7 := s07 _ _ hx
    have hq7 : H q7 = none := (s05.trans s6).free n7
    clear f5 f6 s6 s7 n6 n7 s05
    -- the first counts
    refine ⟨_, rfl, 4, rfl, a, xs, rfl, .of hx7, fun c nc => ⟨c, rfl, ⟨_, .of upd_same⟩, for_list (K := K) (a := c) (xs := cutV xs none (some 4)) (fun i σ H' => ∃ q8 y10 y11, σ = [some p0, some (.ref a), some v, some (.ref L), some (.int rest), some (.ref q8), some (.int tot), none, some (.str k), some (.int n), y10, y11, none, none] ∧ Same (upd H7 c (.lst (cutV xs none (some 4)))) H' ∧ H q8 = none ∧ Fd rows H' q8 (11 + 2 * i)) ⟨q7, none, none, rfl, Same.refl _, hq7, f7.same (same_upd nc)⟩ (fun i σ H' _ hP => ?_) (fun i x σ H8 ex hP => ?_) (fun σ H8 hP => ?_)⟩⟩
    · obtain ⟨_, _, _, _, sm, _⟩ := hP
      exact .of (sm _ _ upd_same)
    · obtain ⟨q8, y10, y11, rfl, sm, hq8, f8⟩ := hP
      have hi : i < (cutV xs none (some 4)).length := (List.getElem?_eq_some_iff.mp ex).1
      have lcut := cutV_length xs none (some 4)
      obtain ⟨j, ey⟩ : ∃ j : Nat, xs[j]? = some x := by
        unfold cutV at ex
        rw [List.getElem?_take] at ex
        split at ex
        · rw [List.getElem?_drop] at ex
          exact ⟨_, ex⟩
        · cases ex
      obtain ⟨r, er, hr1⟩ := Paired.at hp ey
      obtain ⟨t, rfl, ht⟩ := RunV.same (s07.trans ((same_upd nc).trans sm)) hr1
      refine ⟨t, _, rfl, .of ht, rfl, _, _, rfl, _, _, rfl, rfl, ?_⟩
      refine cat_fd1 (m' := 11 + 2 * (i + 1)) f8 rfl (lit_lst (lits_cons (lt4 lit_str (lit_var rfl (.str r.1)) (lit_var rfl (.int r.2)) (Lr rfl)) (lits_cons (lt2 lit_str (lit_var rfl (.int r.2))) lits_nil)) (Nat.le_of_ble_eq_true rfl)) (fun e he => ?_) (by show 11 + 2 * i + 2 ≤ _; omega) (by omega) (fun H9 q9 s9 n9 f9 => ⟨q9, _, _, rfl, sm.trans s9, (s07.trans ((same_upd nc).trans sm)).free n9, f9⟩)
      simp only [List.mem_cons, List.not_mem_nil, or_false] at he
      rcases he with e | e <;> rw [e]
      · exact four (at_str kM) (at_str (okk r (List.mem_of_getElem? er))) at_int at_int
      · exact two (at_str kF) at_int
    obtain ⟨q8, y10, y11, rfl, s8, hq8, f8⟩ := hP
    have lcut := cutV_length xs none (some 4)
    have f8 : Fd rows H8 q8 40 := by
      obtain ⟨zs, F, e, p, l, kF⟩ := f8
      exact ⟨zs, F, e, p, by omega, kF⟩
    have s08 := s07.trans ((same_upd nc).trans s8)
    clear f7 s07 s8 hx7
    obtain ⟨zs, hzs, pz⟩ := id hL
    have lz : zs.length = rows.length := Paired.len pz
    have l30 := rw1.1
    refine ⟨_, rfl, L, rfl, ⟨zs, .of (s08 _ _ hzs)⟩, for_list (K := K) (a := L) (xs := zs) (fun i σ H' => ∃ q9 y7 y10 y11 y12, σ = [some p0, some (.ref a), some v, some (.ref L), some (.int rest), some (.ref q9), some (.int tot), y7, some (.str k), some (.int n), y10, y11, y12, none] ∧ Same H H' ∧ H q9 = none ∧ Fd rows H' q9 (40 + 6 * i)) ⟨q8, none, _, _, none, rfl, s08, hq8, f8⟩ (fun i σ H' _ hP => ?_) (fun i x σ H9 ex hP => ?_) (fun σ H9 hP => ?_)⟩
    · obtain ⟨_, _, _, _, _, _, sm, _⟩ := hP
      exact .of (sm _ _ hzs)
    · obtain ⟨q9, y7, y10, y11, y12, rfl, sm, hq9, f9⟩ := hP
      have hi : i < zs.length := (List.getElem?_eq_some_iff.mp ex).1
      obtain ⟨r, er, hr1⟩ := Paired.at pz ex
      obtain ⟨t, rfl, ht⟩ := hr1.same sm
      rcases sh r (List.mem_of_getElem? er) with ⟨z, y, rfl, hz, hy⟩ | ⟨kd, cn, W, rfl, kdo⟩
      · refine ⟨_, rfl, t, _, 0, _, rfl, rfl, .of ht, atI_nat (j := 0) rfl, rfl, _, rfl, iteN ?_ ⟨q9, _, _, _, _, rfl, sm, hq9, f9.weak (by omega)⟩⟩
        refine decide_eq_false fun e => ?_
        have e := V.str.inj e
        rcases hz with h | h | h <;> rw [h] at e <;> exact absurd e (by decide +kernel)
      · refine ⟨_, rfl, t, _, 0, _, rfl, rfl, .of ht, atI_nat (j := 0) rfl, rfl, _, rfl, iteP (decide_eq_true rfl) ?_⟩
        refine ⟨_, rfl, t, _, 1, _, rfl, rfl, .of ht, atI_nat (j := 1) rfl, _, rfl, t, _, 2, _, rfl, rfl, .of ht, atI_nat (j := 2) rfl, _, _, rfl, ?_⟩
        refine ⟨_, rfl, _, _, rfl, rfl, _, rfl, _, _, rfl, rfl, _, rfl, _, rfl, (by show 4 ≤ sizeLine; decide), fun u nu => ⟨u, rfl, ⟨_, .of upd_same⟩, for_tup (K := K) (a := u) (xs := [.int (cn - 1), .int (cn + 1), .int rest, .int tot]) (fun j σ H' => ∃ y12, σ = [some p0, some (.ref a), some v, some (.ref L), some (.int rest), some (.ref q9), some (.int tot), some (.ref t), some (.str k), some (.int n), some (.str kd), some (.int cn), y12, none] ∧ Same H H' ∧ H' u = some (.tup [.int (cn - 1), .int (cn + 1), .int rest, .int tot]) ∧ Fd rows H' q9 (40 + 6 * i + j)) ⟨_, rfl, sm.trans (same_upd nu), upd_same, f9.same (same_upd nu)⟩ (fun j σ H' _ hP => ?_) (fun j x σ HA ex2 hP => ?_) (fun σ HA hP => ?_)⟩⟩
        · obtain ⟨_, _, _, hu, _⟩ := hP
          exact .of hu
        · obtain ⟨y12, rfl, smA, huA, fA⟩ := hP
          have hj : j < 4 := (List.getElem?_eq_some_iff.mp ex2).1
          obtain ⟨m, rfl⟩ : ∃ m, x = .int m := by
            have := List.mem_of_getElem? ex2
            simp only [List.mem_cons, List.not_mem_nil, or_false] at this
            rcases this with e | e | e | e <;> exact ⟨_, e⟩
          refine app_fd (d := .tup [.str "majority", .str kd, .int m, .int rest]) fA rfl (fun Q hQ => ?_) (four (at_str kM) (at_str kdo) at_int at_int) (by omega) (fun HB o sB fB => ⟨_, rfl, same_grow hq9 (smA.trans sB), ?_, fB⟩)
          · exact ⟨_, rfl, _, rfl, _, rfl, (by show 4 ≤ sizeLine; decide), fun u2 nu2 => hQ u2 _ nu2 fun G e => .tup e (.cons (.str _) (.cons (.str _) (.cons (.int _) (.cons (.int _) .nil))))⟩
          · obtain ⟨w1, _, w2, _⟩ := fA
            rw [upd_ne (fun z => by rw [z, w2] at huA; cases huA)]
            exact sB _ _ huA
        · obtain ⟨y12, rfl, smA, huA, fA⟩ := hP
          refine cat_fd1 (m' := 40 + 6 * (i + 1)) fA rfl (lit_lst (lits_cons (lt4 lit_str (lit_var rfl (.str kd)) (lit_var rfl (.int cn)) (lit_sub (Lr rfl) lit_int)) (lits_cons (lt4 lit_str (lit_var rfl (.str kd)) (lit_var rfl (.int cn)) (lit_add (Lr rfl) lit_int)) lits_nil)) (Nat.le_of_ble_eq_true rfl)) (fun e he => ?_) (by show 40 + 6 * i + 4 + 2 ≤ _; omega) (by omega) (fun HB q10 sB nB fB => ⟨q10, _, _, _, _, rfl, smA.trans sB, smA.free nB, fB⟩)
          simp only [List.mem_cons, List.not_mem_nil, or_false] at he
          rcases he with e | e <;> rw [e] <;> exact four (at_str kM) (at_str kdo) at_int at_int
    obtain ⟨q9, y7, y10, y11, y12, rfl, s9, hq9, f9⟩ := hP
    have f9 := f9.weak (m' := 220) (by omega)
    clear f8 s08 hq8 hq7
    refine ⟨_, rfl, L, rfl, ⟨zs, .of (s9 _ _ hzs)⟩, for_list (K := K) (a := L) (xs := zs) (fun i σ H' => ∃ q10 y7, σ = [some p0, some (.ref a), some v, some (.ref L), some (.int rest), some (.ref q10), some (.int tot), y7, some (.str k), some (.int n), y10, y11, y12, none] ∧ Same H H' ∧ H q10 = none ∧ Fd rows H' q10 (220 + 6 * i)) ⟨q9, _, rfl, s9, hq9, f9⟩ (fun i σ H' _ hP => ?_) (fun i x σ H10 ex hP => ?_) (fun σ H10 hP => ?_)⟩
    · obtain ⟨_, _, _, sm, _⟩ := hP
      exact .of (sm _ _ hzs)
    · obtain ⟨q10, y7, rfl, sm, hq10, f10⟩ := hP
      have hi : i < zs.length := (List.getElem?_eq_some_iff.mp ex).1
      obtain ⟨r, er, hr1⟩ := Paired.at pz ex
      obtain ⟨t, rfl, ht⟩ := hr1.same sm
      have hrm := List.mem_of_getElem? er
      have si := (rw1.2 r hrm).2
      have r4 := (rw1.2 r hrm).1
      have aD : ∀ x ∈ r.map vD, AtD x := fun x hx => by
        obtain ⟨y, hy, rfl⟩ := List.mem_map.mp hx
        exact si_at (si y hy)
      have L7 : ∀ {σ : L2.St} {HX : Hp}, σ[7]? = some (some (.ref t)) → HX t = some (.tup r) → Lit σ HX (tVar 7) (.tup (r.map vD)) := fun e h => lit_var e (.tup h (rp_flat si))
      have fin : ∀ {HB : Hp} {q11 : Addr}, Same H10 HB → H10 q11 = none → Fd rows HB q11 (220 + 6 * i + 5) → ∀ y : V, True := fun _ _ _ _ => trivial
      have go : ∀ (i1 tl : List Dat) (z : Str), r.map vD = .str z :: tl → cutD (r.map vD) none (some (-1)) = i1 → cutD (r.map vD) (some 1) none = tl → i1 ≠ [] → tl ≠ [] → (¬ (HT.sIx (r.map vD).length 0 none = 0 ∧ HT.sIx (r.map vD).length (r.map vD).length (some (-1)) = (r.map vD).length)) → (¬ (HT.sIx (r.map vD).length 0 (some 1) = 0 ∧ HT.sIx (r.map vD).length (r.map vD).length none = (r.map vD).length)) → z.length ≤ 20 → PyData.strOk (z ++ "s") = true → i1.length ≤ 4 → (∀ x ∈ i1, x ∈ r.map vD) → ∀ (σ : L2.St), σ[7]? = some (some (.ref t)) → ∃ ds : List Dat, ds.length = 5 ∧ (∀ e ∈ ds, ClD rows e) ∧ Lit σ H10 (fiveT K) (.lst ds) := by
        intro i1 tl z e0 e1 e2 n1 n2 w1 w2 hz hzs li mi σ hσ
        have lm : (r.map vD).length ≤ 4 := by rw [List.length_map]; exact r4
        have n0 : r.map vD ≠ [] := fun z => by rw [z] at e0; cases e0
        have lt : tl.length ≤ 4 := by
          rw [e0, List.length_cons] at lm
          omega
        exact ⟨_, rfl, cl_five aD mi (fun x hx => by rw [e0]; exact List.mem_cons_of_mem _ hx) hzs lm li lt, lit_five (L7 hσ ht) e0 e1 e2 n0 n1 n2 w1 w2 hz lm li lt⟩
      have five : ∀ (σ : L2.St), σ[7]? = some (some (.ref t)) → ∃ ds : List Dat, ds.length = 5 ∧ (∀ e ∈ ds, ClD rows e) ∧ Lit σ H10 (fiveT K) (.lst ds) := by
        rcases sh r hrm with ⟨z, y, rfl, hz, hy⟩ | ⟨kd, cn, W, rfl, kdo⟩
        · have zl : z.length ≤ 20 ∧ PyData.strOk (z ++ "s") = true := by
            rcases hz with h | h | h <;> rw [h] <;> exact ⟨by decide +kernel, by decide +kernel⟩
          exact go [.str z] [vD y] z rfl rfl rfl (fun z => by cases z) (fun z => by cases z) (fun z => absurd z.2 (show ¬ (1 : Nat) = 2 by decide)) (fun z => absurd z.1 (show ¬ (1 : Nat) = 0 by decide)) zl.1 zl.2 (Nat.le_of_ble_eq_true rfl) (fun x hx => by rw [List.mem_singleton.mp hx]; exact List.mem_cons_self ..)
        · exact go [.str "majority", .str kd, .int cn] [.str kd, .int cn, .int W] "majority" rfl rfl rfl (fun z => by cases z) (fun z => by cases z) (fun z => absurd z.2 (show ¬ (3 : Nat) = 4 by decide)) (fun z => absurd z.1 (show ¬ (1 : Nat) = 0 by decide)) (by decide +kernel) (by decide +kernel) (Nat.le_of_ble_eq_true rfl) (fun x hx => by
            simp only [List.mem_cons, List.not_mem_nil, or_false] at hx
            rcases hx with e | e | e <;> rw [e] <;> simp [vD])
      obtain ⟨ds, l5, kd, hds⟩ := five [some p0, some (.ref a), some v, some (.ref L), some (.int rest), some (.ref q10), some (.int tot), some (.ref t), some (.str k), some (.int n), y10, y11, y12, none] rfl
      refine cat_fd (m' := 220 + 6 * i + 5) f10 rfl hds kd (by omega) (by omega) (fun HB q11 sB nB fB => ?_)
      have htB := sB _ _ ht
      refine app_fd (d := .lst (r.map vD)) fB rfl (fun Q hQ => ?_) (cl_flat rfl (by rw [List.length_map]; omega) aD) (by omega) (fun HC o sC fC => ⟨q11, _, rfl, same_grow (sm.free nB) (sm.trans (sB.trans sC)), sm.free nB, fC⟩)
      exact ⟨_, rfl, t, r, rfl, .inr (.of htB), fun u2 nu2 => hQ u2 _ nu2 fun G e => .lst e (rp_flat si)⟩
    obtain ⟨q10, y7, rfl, s10, hq10, f10⟩ := hP
    have f10 := f10.weak (m' := 400) (by omega)
    have rL : Rp H10 (.ref L) (.lst (rows.map rowD)) := rp_refl (hL.same s10) rw1
    refine cat_ret (m' := 500) f10 rfl (lit_lst (lits_cons lit_non (lits_cons lit_int (lits_cons lit_str (lits_cons (lit_tup lits_nil (Nat.le_of_ble_eq_true rfl)) (lits_cons (lit_lst lits_nil (Nat.le_of_ble_eq_true rfl)) (lits_cons (lit_tup (lits_cons lit_str lits_nil) (Nat.le_of_ble_eq_true rfl)) (lits_cons (lt2 lit_str lit_bl) (lits_cons (lt2 lit_str (lit_lst (lits_cons lit_str lits_nil) (Nat.le_of_ble_eq_true rfl))) (lits_cons lit_dic (lits_cons (lit_tup (lits_cons (lit_var rfl rL) lits_nil) (Nat.le_of_ble_eq_true rfl)) lits_nil)))))))))) (Nat.le_of_ble_eq_true rfl)) (fun e he => ?_) (Nat.le_of_ble_eq_true rfl) (Nat.le_of_ble_eq_true rfl) (fun HB q11 sB fB => q _ q11 (s10.trans sB) (fB.weak (by decide)))
    simp only [List.mem_cons, List.not_mem_nil, or_false] at he
    rcases he with e | e | e | e | e | e | e | e | e | e <;> rw [e]
    · exact .inl rfl
    · exact .inl rfl
    · exact .inl rfl
    · exact cl_flat rfl (by decide) fun x hx => by cases hx
    · exact cl_flat rfl (by decide) fun x hx => by cases hx
    · exact cl_flat rfl (Nat.le_of_ble_eq_true rfl) fun x hx => by rw [List.mem_singleton.mp hx]; exact at_str kF
    · exact two (at_str kP) at_bl
    · exact .inr ⟨_, rfl, Nat.le_of_ble_eq_true rfl, .inr (.inl rfl)⟩
    · exact .inl rfl
    · exact .inr ⟨_, rfl, Nat.le_of_ble_eq_true rfl, .inr (.inr rfl)⟩
end
end UP

set_option Elab.async false
set_option linter.all false
set_option maxRecDepth 100000
set_option maxHeartbeats 4000000
set_option pp.maxSteps 500
namespace UP
open PySem PySem.Spec PyProof.Rows L2
theorem wideQ {m : Int} (h0 : 0 ≤ m) (h1 : m ≤ 10 ^ 41) : m.natAbs < 2 ^ 7999 :=
  Nat.lt_of_lt_of_le (show m.natAbs < 2 ^ 256 by
    have : (10 : Int) ^ 41 = 100000000000000000000000000000000000000000 := by decide +kernel
    omega) (Nat.pow_le_pow_right (by decide) (by decide))
theorem p3941 : (10 : Int) ^ 39 ≤ 10 ^ 41 := by decide +kernel
theorem p3940 : (10 : Int) ^ 39 ≤ 10 ^ 40 := by decide +kernel
theorem p40 : (10 : Int) ^ 40 = 10000000000000000000000000000000000000000 := by decide +kernel
theorem len_up {c : Int} (h : 0 ≤ c) : ∀ {rs : List Run}, (∀ r ∈ rs, 1 ≤ r.2 ∧ r.2 ≤ c) → 0 ≤ lenR rs ∧ lenR rs ≤ c * (rs.length : Int)
  | [], _ => by
    rw [lenR_nil, List.length_nil]
    exact ⟨Int.le_refl _, Int.le_of_eq (Int.mul_zero c).symm⟩
  | r :: t, k => by
    obtain ⟨h1, h1'⟩ := k r (List.mem_cons_self ..)
    obtain ⟨h2, h3⟩ := len_up h fun x hx => k x (List.mem_cons_of_mem _ hx)
    rw [lenR_cons, List.length_cons, Int.natCast_add, Int.mul_add]
    have e : c * ((1 : Nat) : Int) = c := Int.mul_one c
    omega
theorem ot_ok : ∀ s ∈ (["other", "a", "b"] : List Str), KindOk s := by decide +kernel
theorem pick6 {x0 x1 x2 x3 x4 x5 r : Int} {b : Int} (h0 : 0 ≤ r) (h1 : r < 6) (k : ∀ y ∈ [x0, x1, x2, x3, x4, x5], -b ≤ y ∧ y ≤ b) : ∃ g, atI [V.int x0, V.int x1, V.int x2, V.int x3, V.int x4, V.int x5] r = some (.int g) ∧ -b ≤ g ∧ g ≤ b := by
  have : r = 0 ∨ r = 1 ∨ r = 2 ∨ r = 3 ∨ r = 4 ∨ r = 5 := by omega
  rcases this with e | e | e | e | e | e <;> rw [e]
  · exact ⟨x0, rfl, k x0 (by simp)⟩
  · exact ⟨x1, rfl, k x1 (by simp)⟩
  · exact ⟨x2, rfl, k x2 (by simp)⟩
  · exact ⟨x3, rfl, k x3 (by simp)⟩
  · exact ⟨x4, rfl, k x4 (by simp)⟩
  · exact ⟨x5, rfl, k x5 (by simp)⟩
theorem pick5 {r : Int} (h0 : 0 ≤ r) (h1 : r < 5) : ∃ g : Int, atI [V.int 0, V.int 1, V.int (-1), V.int 2, V.int (-2)] r = some (.int g) ∧ -2 ≤ g ∧ g ≤ 2 := by
  have : r = 0 ∨ r = 1 ∨ r = 2 ∨ r = 3 ∨ r = 4 := by omega
  rcases this with e | e | e | e | e <;> rw [e]
  · exact ⟨0, rfl, by decide, by decide⟩
  · exact ⟨1, rfl, by decide, by decide⟩
  · exact ⟨-1, rfl, by decide, by decide⟩
  · exact ⟨2, rfl, by decide, by decide⟩
  · exact ⟨-2, rfl, by decide, by decide⟩
section
variable {P : Program} {w : World} {K : PySem.W.Frag} {mg : Str → Option Value} {base : Heap}
/-! _law_question: slots 0:reel 1:counts 2:most 3:total 4:greatest 5:some 6:number 7:kind 8:count 9:one -/
abbrev s_law_question : Stmt := topS 42
theorem sc_law_question : FnScope ["reel", "counts", "most", "total", "greatest", "some", "number", "kind", "count", "one"] ["reel", "counts", "most"] (defScope s_law_question) := ⟨rfl, rfl, rfl, by decide +kernel, rfl, by decide +kernel, by decide +kernel⟩
def sp_law_question : Sp := fun vs H Q _ => ∃ (p a : Addr) (cs : List Run) (m : Int), vs = [.ref p, .ref a, .int m] ∧ Reel H p ∧ Runs H a cs ∧ CtOk cs ∧ 0 ≤ m ∧ m ≤ 10 ^ 39 ∧ ∀ H' v st, RB p H H' → Reel H' p → StV H' v st → StB st → Q v H'
theorem ok_law_question (D : Df K mg "_law_question" s_law_question) (T : Tx mg) (G_law_draw : Has P w K mg base 1 "_law_draw" ["reel", "many"] sp_law_draw) (G_law_state : Has P w K mg base 2 "_law_state" ["reel", "names", "most"] sp_law_state) (G_law_of : Has P w K mg base 1 "_law_of" ["kind", "count"] sp_law_of) :
    Has P w K mg base 3 "_law_question" ["reel", "counts", "most"] sp_law_question := by
  refine has_of D sc_law_question (fun _ _ _ _ _ _ us hl => match us, hl with | [_, _, _], _ => rfl) (fun vs H Q E h => ?_) (fun f cdv A outer s₀ H vs Q E hr h => ?_)
  · obtain ⟨_, _, _, _, rfl, _⟩ := h
    rfl
  · obtain ⟨p, a, cs, m, rfl, z, hR, ok, m0, m1, q⟩ := h
    obtain ⟨xs, hx, hp⟩ := id hR
    have lx : xs.length = cs.length := Paired.len hp
    have l12 := ok.1
    refine ⟨_, (pss_cons (ps_if (PW.pt (pw_or (pt_cmpR (op_eqD hr.units) (pv 1) (pe_lst pa_nil) (nomark _)) (pw_or1 (pt_cmpR op_eq (pe_callH G_law_draw (hr.mono (by omega)) (by rfl) (pa_cons (pv 0) (pa_cons pe_int pa_nil))) pe_int (nomark _))))) (pss_one (ps_ret (pe_callH G_law_state (hr.mono (by omega)) (by rfl) (pa_cons (pv 0) (pa_cons (pe_lst (pa_cons pe_str (pa_cons pe_str (pa_cons pe_str pa_nil)))) (pa_cons (pv 2) pa_nil)))))) pss_nil)
    (pss_cons (ps_asg (pe_ix ix_list (pv 1) (pe_callH G_law_draw (hr.mono (by omega)) (by rfl) (pa_cons (pv 0) (pa_cons (pe_callB call_len_seq (by rfl) T.n_len (by decide +kernel) (pa_cons (pv 1) pa_nil)) pa_nil))) (fun _ _ => rfl)) (pg_tup rfl (pgs_cons (pg_name (i := 7) sc_law_question.nd rfl (by first | exact Or.inl rfl | exact Or.inr rfl)) (pgs_cons (pg_name (i := 8) sc_law_question.nd rfl (by first | exact Or.inl rfl | exact Or.inr rfl)) pgs_nil))))
    (pss_cons (ps_set (i := 3) sc_law_question.nd rfl (by first | exact Or.inl rfl | exact Or.inr rfl) (pe_callB (cr_sum rfl) (by rfl) T.n_sum (by decide +kernel) (pa_cons (pe_lc (own := [("one", 9)]) rfl sc_law_question.nd (pi_list (pv 1)) (blkOk_by (N := ["reel", "counts", "most", "total", "greatest", "some", "number", "kind", "count", "one"]) (sc := defScope s_law_question) (by decide +kernel)) (fun _ _ _ _ _ => (pg_name (i := 9) sc_law_question.nd rfl (by first | exact Or.inl rfl | exact Or.inr rfl))) (fun _ _ _ _ _ => pts_nil) (fun _ _ _ _ _ => (pe_ix (ix_tupK (K := K) rfl) (pv 9) pe_int (fun _ _ => rfl)))) pa_nil)))
    (pss_cons (ps_set (i := 4) sc_law_question.nd rfl (by first | exact Or.inl rfl | exact Or.inr rfl) (pe_callB (cr_max rfl) (by rfl) T.n_max (by decide +kernel) (pa_cons (pe_lc (own := [("one", 9)]) rfl sc_law_question.nd (pi_list (pv 1)) (blkOk_by (N := ["reel", "counts", "most", "total", "greatest", "some", "number", "kind", "count", "one"]) (sc := defScope s_law_question) (by decide +kernel)) (fun _ _ _ _ _ => (pg_name (i := 9) sc_law_question.nd rfl (by first | exact Or.inl rfl | exact Or.inr rfl))) (fun _ _ _ _ _ => pts_nil) (fun _ _ _ _ _ => (pe_ix (ix_tupK (K := K) rfl) (pv 9) pe_int (fun _ _ => rfl)))) pa_nil)))
    (pss_cons (ps_set (i := 5) sc_law_question.nd rfl (by first | exact Or.inl rfl | exact Or.inr rfl) (pe_lst (pa_cons pe_int (pa_cons (pv 8) (pa_cons (pe_op op_add (pv 8) pe_int) (pa_cons (pe_op op_sub (pe_op op_mul pe_int (pv 8)) (pv 3)) (pa_cons (pe_op op_sub (pv 3) (pe_op op_mul pe_int (pv 4))) (pa_cons (pe_callH G_law_draw (hr.mono (by omega)) (by rfl) (pa_cons (pv 0) (pa_cons (pe_op op_add (pv 8) pe_int) pa_nil))) pa_nil))))))))
    (pss_cons (ps_set (i := 6) sc_law_question.nd rfl (by first | exact Or.inl rfl | exact Or.inr rfl) (pe_op op_add (pe_ix ix_list (pv 5) (pe_callH G_law_draw (hr.mono (by omega)) (by rfl) (pa_cons (pv 0) (pa_cons pe_int pa_nil))) (fun _ _ => rfl)) (pe_ix ix_list (pe_lst (pa_cons pe_int (pa_cons pe_int (pa_cons (pe_un un_neg pe_int) (pa_cons pe_int (pa_cons (pe_un un_neg pe_int) pa_nil)))))) (pe_callH G_law_draw (hr.mono (by omega)) (by rfl) (pa_cons (pv 0) (pa_cons pe_int pa_nil))) (fun _ _ => rfl))))
    (pss_one (ps_ret (pe_callH G_law_of (hr.mono (by omega)) (by rfl) (pa_cons (pv 7) (pa_cons (pe_callB (call_max2 rfl) (by rfl) T.n_max (by decide +kernel) (pa_cons pe_int (pa_cons (pv 6) pa_nil))) pa_nil))))))))))), ?_⟩
    have out : ∀ {H0 : Hp}, RB p H H0 → Reel H0 p → ∀ (σ : L2.St), σ[0]? = some (some (.ref p)) → σ[2]? = some (some (.int m)) → tRet (tCall sp_law_state [] E0 (tCons (tVar 0) (tCons (tLst (tCons (tC (.str "other")) (tCons (tC (.str "a")) (tCons (tC (.str "b")) tNil)))) (tCons (tVar 2) tNil)))) { nx := fun x H' => Q V.non H', rt := Q } σ H0 := by
      intro H0 b0 z0 σ e0 e2
      refine ⟨_, e0, (by show 3 ≤ sizeLine; decide), fun l nl => ⟨_, e2, ?_⟩⟩
      refine ⟨p, l, ["other", "a", "b"], m, rfl, z0.same (same_upd nl), upd_same, by decide, by decide, ot_ok, m0, wideQ m0 (Int.le_trans m1 p3941), fun H1 v st b1 z1 hv so sm => q _ v st (b0.trans ((RB.of (same_upd nl)).trans b1)) z1 hv fun r er => ?_⟩
      obtain ⟨s1, s2⟩ := so r er
      exact ⟨s1, s2, Int.le_trans (sm r er) (Int.le_trans m1 p3940)⟩
    refine ⟨_, rfl, Nat.zero_le _, fun e ne => ?_⟩
    have se := same_upd (o := .lst []) ne
    have ze := z.same se
    have hRe := hR.same se
    refine ⟨.list (cs.map dRun), .list [], .lst (.of (se _ _ hx)) (dp_runsF (Paired.imp (fun _ _ z => RunV.same se z) hp)), .lst (.of upd_same) .nil, shaped_runs (fun r hr => (ok.2.1 r hr).1), by decide, _, rfl, ?_⟩
    rw [eqv_nil]
    by_cases emp : cs = []
    · rw [emp]
      exact iteP rfl (iteT (out (RB.of se) ze _ rfl rfl))
    have pos : 0 < cs.length := Nat.pos_of_ne_zero fun z => emp (List.eq_nil_of_length_eq_zero z)
    refine iteN (by cases cs with | nil => exact absurd rfl emp | cons r t => rfl) ⟨_, rfl, p, 5, rfl, ze, by decide, by decide, fun H1 r1 b1 z1 g0 g1 => ⟨rfl, _, rfl, ?_⟩⟩
    have B1 : RB p H H1 := (RB.of se).trans b1
    by_cases c0 : r1 = 0
    · exact iteP (by rw [c0]; exact decide_eq_true rfl) (out B1 z1 _ rfl rfl)
    refine iteN (decide_eq_false fun z => c0 (V.int.inj z)) ?_
    have hR1 := b1.runs ze hRe
    obtain ⟨x1, hx1, hp1⟩ := id hR1
    have lx1 : x1.length = cs.length := Paired.len hp1
    -- one of the counts
    refine ⟨_, rfl, _, rfl, _, rfl, a, _, rfl, .inl (.of hx1), p, _, rfl, z1, by omega, wide8 (by omega) (by omega), fun H2 r2 b2 z2 h0 h1 => ?_⟩
    have hR2 := b2.runs z1 hR1
    obtain ⟨x2, hx2, hp2⟩ := id hR2
    have lx2 : x2.length = cs.length := Paired.len hp2
    have r2l : r2.toNat < cs.length := by omega
    obtain ⟨y, ey, tr, rfl, htr⟩ := Paired.at' hp2 (List.getElem?_eq_getElem r2l)
    have hrm : cs[r2.toNat] ∈ cs := List.getElem_mem r2l
    generalize cs[r2.toNat] = r at *
    refine ⟨a, _, r2, _, rfl, rfl, .of hx2, atI_ofR h0 ey, tr, _, rfl, .of htr, rfl, _, _, rfl, _, _, rfl, rfl, ?_⟩
    obtain ⟨rk, rn1, rn2⟩ := ok.2.1 r hrm
    have B2 := B1.trans b2
    have runB : ∀ x ∈ cs, 1 ≤ x.2 ∧ x.2 ≤ 1000000000000000000000000000000 := fun x hx => (ok.2.1 x hx).2
    obtain ⟨tl0, tl1⟩ := len_up (c := 1000000000000000000000000000000) (by decide) runB
    have tl2 : lenR cs ≤ 12000000000000000000000000000000 := by omega
    clear b1 b2 hx1 hp1 hRe ze se out hR1 B1 z1
    -- total
    refine ⟨_, rfl, a, rfl, ⟨x2, .of hx2⟩, fun M nM => lc_list (K := K) (a := a) (xs := x2) (fun i H' => Same H2 H' ∧ H' M = some (.lst (((cs.map (·.2)).take i).map V.int))) ⟨same_upd nM, upd_same⟩ (fun i H' _ p => .of (p.1 _ _ hx2)) (fun i x H3 ex p => ?_) (fun H3 p => ?_)⟩
    · obtain ⟨sm, hM⟩ := p
      obtain ⟨r', er, hr1⟩ := Paired.at hp2 ex
      have hi : i < x2.length := (List.getElem?_eq_some_iff.mp ex).1
      obtain ⟨t, rfl, ht⟩ := RunV.same sm hr1
      refine ⟨rfl, yesT ⟨_, rfl, t, _, 1, _, rfl, rfl, .of ht, at1, _, hM, ?_, same_grow nM sm, ?_⟩⟩
      · simp only [List.length_map, List.length_take]
        exact small (by omega)
      · rw [upd_same, take_snoc (x := r'.2) (by rw [List.getElem?_map, er]; rfl), List.map_append]
        rfl
    obtain ⟨s3, hM⟩ := p
    rw [List.take_of_length_le (by rw [List.length_map]; omega)] at hM
    refine ⟨M, (cs.map (fun r : Run => r.2)), rfl, .of hM, ?_⟩
    rw [show (cs.map (fun r : Run => r.2)).sum = lenR cs from rfl]
    have hx3 := s3 _ _ hx2
    clear hM nM
    -- greatest
    refine ⟨_, rfl, a, rfl, ⟨x2, .of hx3⟩, fun M nM => lc_list (K := K) (a := a) (xs := x2) (fun i H' => Same H3 H' ∧ H' M = some (.lst (((cs.map (·.2)).take i).map V.int))) ⟨same_upd nM, upd_same⟩ (fun i H' _ p => .of (p.1 _ _ hx3)) (fun i x H4 ex p => ?_) (fun H4 p => ?_)⟩
    · obtain ⟨sm, hM⟩ := p
      obtain ⟨r', er, hr1⟩ := Paired.at hp2 ex
      have hi : i < x2.length := (List.getElem?_eq_some_iff.mp ex).1
      obtain ⟨t, rfl, ht⟩ := RunV.same (s3.trans sm) hr1
      refine ⟨rfl, yesT ⟨_, rfl, t, _, 1, _, rfl, rfl, .of ht, at1, _, hM, ?_, same_grow nM sm, ?_⟩⟩
      · simp only [List.length_map, List.length_take]
        exact small (by omega)
      · rw [upd_same, take_snoc (x := r'.2) (by rw [List.getElem?_map, er]; rfl), List.map_append]
        rfl
    obtain ⟨s4, hM⟩ := p
    rw [List.take_of_length_le (by rw [List.length_map]; omega)] at hM
    refine ⟨M, (cs.map (fun r : Run => r.2)), rfl, .of hM, by rw [List.length_map]; exact pos, fun g gm gl => ?_⟩
    obtain ⟨gr, hgr, eg⟩ := List.mem_map.mp gm
    have eg : gr.2 = g := eg
    obtain ⟨gb1, gb2⟩ := runB gr hgr
    rw [eg] at gb1 gb2
    have z4 := z2.same (s3.trans s4)
    have B4 := B2.trans (RB.of (s3.trans s4))
    clear hM nM gl gm
    generalize lenR cs = tot at *
    generalize r.2 = c at *
    -- the numbers
    refine ⟨_, rfl, _, rfl, _, _, rfl, rfl, ?_⟩
    refine ⟨_, rfl, _, _, rfl, rfl, .inl ⟨by decide, by decide⟩, _, rfl, _, _, rfl, rfl, _, rfl, _, rfl, _, _, rfl, rfl, .inl ⟨by decide, by decide⟩, _, _, rfl, rfl, ?_⟩
    refine ⟨_, rfl, _, rfl, _, _, rfl, rfl, p, _, rfl, z4, (by show 1 ≤ c + 1; omega), wide8 (by show 0 ≤ c + 1; omega) (by show c + 1 ≤ _; omega), fun H5 r5 b5 z5 i0 i1 => ⟨(by show 6 ≤ sizeLine; decide), fun l nl => ?_⟩⟩
    have i1 : r5 < c + 1 := i1
    have sl := same_upd (o := .lst [.int 0, .int c, .int (c + 1), .int (2 * c - tot), .int (tot - 2 * g), .int r5]) nl
    refine ⟨_, rfl, _, rfl, p, 6, rfl, z5.same sl, by decide, by decide, fun H6 r6 b6 z6 j0 j1 => ?_⟩
    obtain ⟨g6, eg6, lo6, hi6⟩ := pick6 (x0 := 0) (x1 := c) (x2 := c + 1) (x3 := 2 * c - tot) (x4 := tot - 2 * g) (x5 := r5) (b := 20000000000000000000000000000000) j0 j1 fun y hy => by
      simp only [List.mem_cons, List.not_mem_nil, or_false] at hy
      rcases hy with e | e | e | e | e | e <;> rw [e] <;> omega
    have hl6 := b6.but _ _ (z5.ne nl) upd_same
    refine ⟨l, _, r6, _, rfl, rfl, .of hl6, eg6, ?_⟩
    refine ⟨1, rfl, 2, rfl, (by show 5 ≤ sizeLine; decide), fun l2 nl2 => ?_⟩
    have sl2 := same_upd (o := .lst [.int 0, .int 1, .int (-1), .int 2, .int (-2)]) nl2
    refine ⟨_, rfl, p, 5, rfl, z6.same sl2, by decide, by decide, fun H7 r7 b7 z7 k0 k1 => ?_⟩
    obtain ⟨g5, eg5, lo5, hi5⟩ := pick5 k0 k1
    refine ⟨l2, _, r7, _, rfl, rfl, .of (b7.but _ _ (z6.ne nl2) upd_same), eg5, _, _, rfl, rfl, ?_⟩
    have B7 := B4.trans (b5.trans ((RB.of sl).trans (b6.trans ((RB.of sl2).trans b7))))
    clear b5 b6 b7 B4 B2 eg5 eg6 hl6 sl sl2
    refine ⟨_, rfl, _, rfl, _, _, rfl, r.1, _, rfl, ?_, fun H8 v8 s8 h8 => q H8 v8 _ (B7.trans (RB.of s8)) (z7.same s8) h8 fun r' er => ?_⟩
    · show 0 ≤ (if g6 + g5 > 0 then g6 + g5 else 0)
      split <;> omega
    · have er : withR r.1 (if g6 + g5 > 0 then g6 + g5 else 0) = some r' := er
      unfold withR at er
      by_cases c1 : g6 + g5 > 0
      · rw [if_pos c1] at er
        rw [if_neg (by omega)] at er
        cases er
        rw [p40]
        exact ⟨rk, by show 1 ≤ g6 + g5; omega, by show g6 + g5 ≤ _; omega⟩
      · rw [if_neg c1, if_pos rfl] at er
        cases er
end
end UP

set_option Elab.async false
set_option linter.all false
set_option maxRecDepth 100000
set_option maxHeartbeats 4000000
set_option pp.maxSteps 300
namespace UP
open PySem PySem.Spec PyProof.Rows L2
theorem simR_seq {H : Hp} {p a : Addr} {rs : List Run} (z : Reel H p) (h : Runs H a rs) (l : rs.length ≤ 1000) : Sim (· ≠ p) H 2 (.ref a) (dSq rs) := by
  have na := z.runs_ne h
  obtain ⟨xs, hx, hp⟩ := h
  refine .inr ⟨a, xs, _, rfl, na, .inl hx, rfl, ?_, by rw [List.length_map]; exact l⟩
  have gen : ∀ {xs : List V} {rs : List Run}, Paired (RunV H) xs rs → Paired (Sim (· ≠ p) H 1) xs (rs.map dP) := by
    intro xs rs h
    induction h with
    | nil => exact .nil
    | cons h _ ih => exact .cons (simR_run z h) ih
  exact gen hp
theorem dps_runsN {K : PySem.W.Frag} {H : Hp} {v : V} {rs : List Run} (h : RunsG H v rs) (k : ∀ r ∈ rs, KindOk r.1 ∧ r.2.natAbs < 10 ^ 60) (l : rs.length ≤ 15) : ∃ d, DpS K H v d ∧ Nice 6075 2 d := by
  obtain ⟨a, xs, rfl, hx, hp⟩ := h
  have lx : xs.length = rs.length := Paired.len hp
  obtain ⟨d, h1, h2⟩ := dps_seq (K := K) (w := 404) (n := 1) hx fun x hx => by
    obtain ⟨i, hi, e⟩ := List.mem_iff_getElem.mp hx
    obtain ⟨r, er, hr⟩ := Paired.at hp (List.getElem?_eq_getElem hi)
    rw [e] at hr
    have := k r (List.mem_of_getElem? er)
    exact dps_run hr this.1 this.2
  exact ⟨d, h1, h2.mono (by rw [lx]; omega) (Nat.le_refl _)⟩
theorem atS {K : PySem.W.Frag} {H : Hp} {t : Addr} {xs : List V} {i : Int} {x : V} {Q : VK} (h : Sq2 H t xs) (e : atI xs i = some x) (q : Q x H) : rIx K (.ref t) (.int i) H Q := h.elim (fun z => .inl ⟨t, _, i, _, rfl, rfl, .of z, e, q⟩) (fun z => .inr (.inl ⟨t, _, i, _, rfl, rfl, .of z, e, q⟩))
theorem Sq2.sameR {H H' : Hp} {a : Addr} {xs : List V} (s : Same H H') (h : Sq2 H a xs) : Sq2 H' a xs := h.elim (fun z => .inl (s _ _ z)) (fun z => .inr (s _ _ z))
theorem sim_two2 {N : Addr → Prop} {H : Hp} {v : V} {x y : PyData} (h : Sim N H 3 v (.list [x, y])) : ∃ d a b, v = .ref d ∧ Sq2 H d [a, b] ∧ Sim N H 2 a x ∧ Sim N H 2 b y := by
  rcases h with h | ⟨d, xs, ds, rfl, _, hx, e, p, _⟩
  · exact (dsc_lst h).elim
  · cases e
    cases p with
    | cons h1 p =>
    cases p with
    | cons h2 p =>
    cases p
    exact ⟨d, _, _, rfl, hx, h1, h2⟩
theorem at0L {x : V} {l : List V} : atI (x :: l) 0 = some x := atI_ofR (Int.le_refl _) rfl
noncomputable def aD (rows : List (List V)) (d : Dat) : Bool := match d.parts with
  | some l => anyD rows l
  | none => false
theorem aD_some {rows : List (List V)} {d : Dat} {l : List Dat} (h : d.parts = some l) : aD rows d = anyD rows l ∧ dueD rows d = dueL rows l := by
  unfold aD dueD
  rw [h]
  exact ⟨rfl, rfl⟩
theorem aD_none {rows : List (List V)} {d : Dat} (h : d.parts = none) : aD rows d = false ∧ dueD rows d = false := by
  unfold aD dueD
  rw [h]
  exact ⟨rfl, rfl⟩
theorem bools_due {rows : List (List V)} {l : List Dat} (k : RwOk rows) : (anyD rows l && (l.filterMap Dat.bB).isEmpty) = dueL rows l := by
  by_cases c : l.filterMap Dat.bB = []
  · have nb : ∀ x ∈ l, x.bB = none := fun x hx => by
      cases e : x.bB with
      | none => rfl
      | some b =>
        have : b ∈ l.filterMap Dat.bB := List.mem_filterMap.mpr ⟨x, hx, e⟩
        rw [c] at this
        cases this
    rw [c, any_due k nb]
    exact Bool.and_true _
  · have : ∃ x ∈ l, ∃ b, x = .bl b := by
      cases e : l.filterMap Dat.bB with
      | nil => exact absurd e c
      | cons b t =>
        have hb : b ∈ l.filterMap Dat.bB := by rw [e]; exact List.mem_cons_self ..
        obtain ⟨x, hx, eb⟩ := List.mem_filterMap.mp hb
        refine ⟨x, hx, b, ?_⟩
        cases x with
        | bl z => cases eb; rfl
        | _ => cases eb
    obtain ⟨x, hx, b, rfl⟩ := this
    rw [due_no k hx fun y hy z => by
      rcases hy with ⟨u, rfl, _⟩ | ⟨n, rfl⟩ <;> cases z]
    have : (l.filterMap Dat.bB).isEmpty = false := by
      cases e : l.filterMap Dat.bB with
      | nil => exact absurd e c
      | cons b t => rfl
    rw [this]
    exact Bool.and_false _
theorem bl2 (b : Bool) : Nice 20 1 (.list [.bool b, .bool b]) := by
  cases b
  · exact ⟨by decide +kernel, by decide +kernel, by decide +kernel, by decide +kernel, by decide +kernel⟩
  · exact ⟨by decide +kernel, by decide +kernel, by decide +kernel, by decide +kernel, by decide +kernel⟩
section
variable {P : Program} {w : World} {K : PySem.W.Frag} {mg : Str → Option Value} {base : Heap}
/-! law: slots 0:script 1:reel 2:k 3:counts 4:turn 5:state 6:dressed 7:kept 8:reasons 9:due 10:claim 11:is_due 12:found 13:one -/
abbrev s_law : Stmt := topS 44
theorem sc_law : FnScope ["script", "reel", "k", "counts", "turn", "state", "dressed", "kept", "reasons", "due", "claim", "is_due", "found", "one"] ["script"] (defScope s_law) := ⟨rfl, rfl, rfl, by decide +kernel, rfl, by decide +kernel, by decide +kernel⟩
def sp_law (K : PySem.W.Frag) : Sp := fun vs H Q _ => ∃ (a : Addr) (ns : List Int), vs = [.ref a] ∧ SqL K H a (ns.map V.int) ∧ ns.length ≤ 63 ∧ ∀ H', Q (.bl true) H'
theorem fn_law {f : Addr} {fd : FuncData} (F : Fun K "law" "law" s_law f fd) (T : Tx mg)
    (G_law_reel : Has P w K mg base 1 "_law_reel" ["script"] (sp_law_reel K)) (G_law_draw : Has P w K mg base 1 "_law_draw" ["reel", "many"] sp_law_draw)
    (G_law_counts : Has P w K mg base 3 "_law_counts" ["reel", "many", "most"] sp_law_counts) (G_law_question : Has P w K mg base 3 "_law_question" ["reel", "counts", "most"] sp_law_question) (G_law_dressed : Has P w K mg base 5 "_law_dressed" ["reel", "value"] (sp_law_dressed 3))
    (G_law_reasons : Has P w K mg base 1 "_law_reasons" ["counts", "state"] sp_law_reasons) (G_law_claims : Has P w K mg base 1 "_law_claims" ["reel", "counts", "state", "reasons"] sp_law_claims)
    (G_reason_against : Has P w K mg base 6 "reason_against" ["counts", "state"] sp_reason_against) (G_can_remain : Has P w K mg base 7 "can_remain" ["counts", "state"] sp_can_remain) (G_shows_against : Has P w K mg base 6 "shows_against" ["counts", "state", "value"] spD_shows_against) :
    FnC P w K mg base f fd ["script"] (sp_law K) := by
  refine fnC_of F sc_law (fun vs H Q E h => ?_) (fun cdv outer s H vs Q E hr h => ?_)
  · obtain ⟨_, _, rfl, _⟩ := h
    rfl
  · obtain ⟨a, ns, rfl, hS, l63, q⟩ := h
    have hr := Room.deeper (show Room (9 + 1) callerA from ⟨rfl, by decide, by decide⟩) (envOfC "law" (defScope s_law) s.heap.objs.size f cdv)
    refine ⟨_, (pss_cons (ps_set (i := 1) sc_law.nd rfl (by first | exact Or.inl rfl | exact Or.inr rfl) (pe_callH G_law_reel (hr.mono (by omega)) (by rfl) (pa_cons (pv 0) pa_nil)))
    (pss_cons (ps_for PassesOwn.never rfl (pi_range1 (by rfl) T.n_range (pa_cons (pe_op op_add pe_int (pe_callB (call_min2 rfl) (by rfl) T.n_min (by decide +kernel) (pa_cons (pe_callB call_len_seq (by rfl) T.n_len (by decide +kernel) (pa_cons (pv 0) pa_nil)) (pa_cons pe_int pa_nil)))) pa_nil)) (pg_name (i := 2) sc_law.nd rfl (by first | exact Or.inl rfl | exact Or.inr rfl))
      (pss_cons (ps_set (i := 3) sc_law.nd rfl (by first | exact Or.inl rfl | exact Or.inr rfl) (pe_callH G_law_counts (hr.mono (by omega)) (by rfl) (pa_cons (pv 1) (pa_cons pe_int (pa_cons (pe_ix ix_list (pe_lst (pa_cons pe_int (pa_cons (pe_op op_pow pe_int pe_int) pa_nil))) (pe_callH G_law_draw (hr.mono (by omega)) (by rfl) (pa_cons (pv 1) (pa_cons pe_int pa_nil))) (fun _ _ => rfl)) pa_nil)))))
    (pss_one (ps_for PassesOwn.never rfl (pi_range1 (by rfl) T.n_range (pa_cons pe_int pa_nil)) (pg_name (i := 4) sc_law.nd rfl (by first | exact Or.inl rfl | exact Or.inr rfl))
      (pss_cons (ps_set (i := 5) sc_law.nd rfl (by first | exact Or.inl rfl | exact Or.inr rfl) (pe_callH G_law_question (hr.mono (by omega)) (by rfl) (pa_cons (pv 1) (pa_cons (pv 3) (pa_cons (pe_ix ix_list (pe_lst (pa_cons (pe_op op_pow pe_int pe_int) (pa_cons (pe_op op_pow pe_int pe_int) pa_nil))) (pe_callTy call_int1 (by rfl) T.n_int (by decide +kernel) (pa_cons (pe_cmpR op_eq (pv 4) pe_int (nomark _)) pa_nil)) (fun _ _ => rfl)) pa_nil)))))
    (pss_cons (ps_set (i := 6) sc_law.nd rfl (by first | exact Or.inl rfl | exact Or.inr rfl) (pe_callH G_law_dressed (hr.mono (by omega)) (by rfl) (pa_cons (pv 1) (pa_cons (pe_lst (pa_cons (pv 3) (pa_cons (pv 5) pa_nil))) pa_nil))))
    (pss_cons (ps_set (i := 7) sc_law.nd rfl (by first | exact Or.inl rfl | exact Or.inr rfl) (pe_callB (call_reprD (by rfl) (room70 hr)) (by rfl) T.n_repr (by decide +kernel) (pa_cons (pe_lst (pa_cons (pv 3) (pa_cons (pv 5) (pa_cons (pv 6) pa_nil)))) pa_nil)))
    (pss_cons (ps_set (i := 8) sc_law.nd rfl (by first | exact Or.inl rfl | exact Or.inr rfl) (pe_callH G_law_reasons (hr.mono (by omega)) (by rfl) (pa_cons (pv 3) (pa_cons (pv 5) pa_nil))))
    (pss_cons (ps_set (i := 9) sc_law.nd rfl (by first | exact Or.inl rfl | exact Or.inr rfl) (pe_ix ix_list (pe_op op_cat (pv 8) (pe_lst (pa_cons pe_non pa_nil))) pe_int (fun _ _ => rfl)))
    (pss_cons (ps_if (pt_cmpR op_ne (pe_callB (call_reprD (by rfl) (room70 hr)) (by rfl) T.n_repr (by decide +kernel) (pa_cons (pe_lst (pa_cons (pe_callH G_reason_against (hr.mono (by omega)) (by rfl) (pa_cons (pv 3) (pa_cons (pv 5) pa_nil))) (pa_cons (pe_callH G_reason_against (hr.mono (by omega)) (by rfl) (pa_cons (pe_ix ix_seq (pv 6) pe_int (fun _ _ => rfl)) (pa_cons (pe_ix ix_seq (pv 6) pe_int (fun _ _ => rfl)) pa_nil))) pa_nil))) pa_nil)) (pe_callB (call_reprD (by rfl) (room70 hr)) (by rfl) T.n_repr (by decide +kernel) (pa_cons (pe_lst (pa_cons (pv 9) (pa_cons (pv 9) pa_nil))) pa_nil)) (nomark _)) (pss_one (ps_ret pe_bl)) pss_nil)
    (pss_cons (ps_if (pt_cmpR op_ne (pe_callH G_can_remain (hr.mono (by omega)) (by rfl) (pa_cons (pv 3) (pa_cons (pv 5) pa_nil))) (pe_cmpR op_isN (pv 9) pe_non (nomark _)) (nomark _)) (pss_one (ps_ret pe_bl)) pss_nil)
    (pss_cons (ps_for PassesOwn.never rfl (pi_list (pe_callH G_law_claims (hr.mono (by omega)) (by rfl) (pa_cons (pv 1) (pa_cons (pv 3) (pa_cons (pv 5) (pa_cons (pv 8) pa_nil)))))) (pg_name (i := 10) sc_law.nd rfl (by first | exact Or.inl rfl | exact Or.inr rfl))
      (pss_cons (ps_set (i := 11) sc_law.nd rfl (by first | exact Or.inl rfl | exact Or.inr rfl) (pe_and (pe_callB call_isiT (by rfl) T.n_isinstance (by decide +kernel) (pa_cons (pv 10) (pa_cons (pe_tup (pa_cons (pe_bltn (v := .ty "list") (by rfl) T.n_list (by decide +kernel) rfl) (pa_cons (pe_bltn (v := .ty "tuple") (by rfl) T.n_tuple (by decide +kernel) rfl) pa_nil))) pa_nil))) (pe_one (pe_cmpR (op_inDK (K := K) rfl (room65 hr)) (pe_callTy call_tuple_of (by rfl) T.n_tuple (by decide +kernel) (pa_cons (pv 10) pa_nil)) (pv 8) (by with_unfolding_all rfl)))))
    (pss_cons (ps_set (i := 11) sc_law.nd rfl (by first | exact Or.inl rfl | exact Or.inr rfl) (pe_and (pv 11) (pe_one (pe_cmpR (op_eqD hr.units) (pe_lc (own := [("one", 13)]) rfl sc_law.nd (pi_seqV 10) (blkOk_by (N := ["script", "reel", "k", "counts", "turn", "state", "dressed", "kept", "reasons", "due", "claim", "is_due", "found", "one"]) (sc := defScope s_law) (by decide +kernel)) (fun _ _ _ _ _ => (pg_name (i := 13) sc_law.nd rfl (by first | exact Or.inl rfl | exact Or.inr rfl))) (fun _ _ _ _ _ => pts_one (pt_val (pe_callB (call_isiK (K := K) rfl) (by rfl) T.n_isinstance (by decide +kernel) (pa_cons (pv 13) (pa_cons (pe_bltn (v := .ty "bool") (by rfl) T.n_bool (by decide +kernel) rfl) pa_nil))))) (fun _ _ _ _ _ => (pv 13))) (pe_lst pa_nil) (nomark _)))))
    (pss_cons (ps_set (i := 12) sc_law.nd rfl (by first | exact Or.inl rfl | exact Or.inr rfl) (pe_lst (pa_cons (pe_callH G_shows_against (hr.mono (by omega)) (by rfl) (pa_cons (pv 3) (pa_cons (pv 5) (pa_cons (pv 10) pa_nil)))) (pa_cons (pe_callH G_shows_against (hr.mono (by omega)) (by rfl) (pa_cons (pe_ix ix_seq (pv 6) pe_int (fun _ _ => rfl)) (pa_cons (pe_ix ix_seq (pv 6) pe_int (fun _ _ => rfl)) (pa_cons (pv 10) pa_nil)))) pa_nil))))
    (pss_one (ps_if (pt_cmpR op_ne (pe_callB (call_reprD (by rfl) (room70 hr)) (by rfl) T.n_repr (by decide +kernel) (pa_cons (pv 12) pa_nil)) (pe_callB (call_reprD (by rfl) (room70 hr)) (by rfl) T.n_repr (by decide +kernel) (pa_cons (pe_lst (pa_cons (pv 11) (pa_cons (pv 11) pa_nil))) pa_nil)) (nomark _)) (pss_one (ps_ret pe_bl)) pss_nil))))))
    (pss_one (ps_if (pt_cmpR op_ne (pe_callB (call_reprD (by rfl) (room70 hr)) (by rfl) T.n_repr (by decide +kernel) (pa_cons (pe_lst (pa_cons (pv 3) (pa_cons (pv 5) (pa_cons (pv 6) pa_nil)))) pa_nil)) (pv 7) (nomark _)) (pss_one (ps_ret pe_bl)) pss_nil))))))))))))))
    (pss_one (ps_ret pe_bl)))), ?_⟩
    refine ⟨_, rfl, a, ns, rfl, hS, fun H1 p s1 np z1 => ?_⟩
    refine ⟨_, rfl, a, _, rfl, .inl (s1.seq hS), _, _, rfl, _, _, rfl, rfl, _, rfl, ?_, ?_, for_range (lo := 0) (n := _) (fun i σ H' => ∃ y2 y3 y4 y5 y6 y7 y8 y9 y10 y11 y12 y13, σ = [some (.ref a), some (.ref p), y2, y3, y4, y5, y6, y7, y8, y9, y10, y11, y12, y13] ∧ Reel H' p)
      ⟨none, none, none, none, none, none, none, none, none, none, none, none, rfl, z1⟩ (fun i σ H2 hi hP => ?_) (fun σ H2 hP => ?_)⟩
    · rw [List.length_map]
      split <;> omega
    · rw [List.length_map]
      split <;> omega
    · obtain ⟨y2, y3, y4, y5, y6, y7, y8, y9, y10, y11, y12, y13, rfl, z2⟩ := hP
      clear z1
      -- counts
      refine ⟨_, rfl, _, _, rfl, rfl, ⟨by decide, by decide, by decide⟩, (by show 2 ≤ sizeLine; decide), fun l2 nl2 => ⟨_, rfl, p, 2, rfl, z2.same (same_upd nl2), by decide, by decide, fun H3 r3 b3 z3 r30 r31 => ?_⟩⟩
      have hl2 := b3.but _ _ (z2.ne nl2) upd_same
      obtain ⟨g, hg, g1, g2⟩ : ∃ g, atI [V.int 4, .int ((10 : Int) ^ ((30 : Int).toNat))] r3 = some (.int g) ∧ 1 ≤ g ∧ g ≤ 1000000000000000000000000000000 := by
        rw [p30R]
        rcases (show r3 = 0 ∨ r3 = 1 by omega) with e | e
        · rw [e]; exact ⟨4, rfl, by decide, by decide⟩
        · rw [e]; exact ⟨_, rfl, by decide, by decide⟩
      refine ⟨l2, _, r3, _, rfl, rfl, .of hl2, hg, p, 12, g, rfl, z3, by decide, by decide, g1, by omega, fun H4 L cs b4 z4 nL hR ok lg oth => ?_⟩
      clear b3 b4 hl2 hg z2 z3 nl2 nL oth
      have okR : ∀ r ∈ cs, KindOk r.1 := fun r h => (ok.2.1 r h).1
      have l12 := ok.1
      -- six questions
      refine ⟨6, rfl, by decide, by decide, for_range (lo := 0) (n := 6) (fun j σ H' => ∃ y4 y5 y6 y7 y8 y9 y10 y11 y12 y13, σ = [some (.ref a), some (.ref p), some (.int (0 + i)), some (.ref L), y4, y5, y6, y7, y8, y9, y10, y11, y12, y13] ∧ Reel H' p ∧ Runs H' L cs)
        ⟨_, _, _, _, _, _, _, _, _, _, rfl, z4, hR⟩ (fun j σ H5 hj hP => ?_) (fun σ H5 hP => ?_)⟩
      · clear z4 hR
        obtain ⟨y4', y5', y6', y7', y8', y9', y10', y11', y12', y13', rfl, z5, hR5⟩ := hP
        refine ⟨_, rfl, _, rfl, _, _, rfl, rfl, ⟨by decide, by decide, by decide⟩, _, _, rfl, rfl, ⟨by decide, by decide, by decide⟩, (by show 2 ≤ sizeLine; decide), fun lm nlm => ?_⟩
        have sm := same_upd (o := .lst [.int ((10 : Int) ^ ((31 : Int).toNat)), .int ((10 : Int) ^ ((39 : Int).toNat))]) nlm
        refine ⟨_, rfl, rfl, .inr ⟨_, rfl, ?_⟩⟩
        obtain ⟨m, em, m0, m1⟩ : ∃ m, atI [V.int ((10 : Int) ^ ((31 : Int).toNat)), .int ((10 : Int) ^ ((39 : Int).toNat))] (if decide (V.int (0 + (j : Int)) = V.int 0) = true then 1 else 0) = some (.int m) ∧ 0 ≤ m ∧ m ≤ 10 ^ 39 := by
          cases decide (V.int (0 + (j : Int)) = V.int 0) with
          | true => exact ⟨_, rfl, by decide +kernel, by decide +kernel⟩
          | false => exact ⟨_, rfl, by decide +kernel, by decide +kernel⟩
        refine ⟨lm, _, _, _, rfl, rfl, .of upd_same, em, p, L, cs, m, rfl, z5.same sm, hR5.same sm, ok, m0, m1, fun H6 v st b6 z6 hv sb => ?_⟩
        have so : StOk st := fun r e => ⟨(sb r e).1, (sb r e).2.1⟩
        have hR6 := b6.runs (z5.same sm) (hR5.same sm)
        clear b6 z5 hR5 sm nlm em
        -- dressed
        refine ⟨_, rfl, _, rfl, _, rfl, (by show 2 ≤ sizeLine; decide), fun l3 nl3 => ?_⟩
        have s7 := same_upd (o := .lst [.ref L, v]) nl3
        have nl3p := z6.ne nl3
        have z7 := z6.same s7
        refine ⟨p, .ref l3, .list [dSq cs, dSt st], rfl, z7, .inr ⟨l3, _, _, rfl, nl3p, .inl upd_same, rfl, .cons (simR_seq z7 (hR6.same s7) (by omega)) (.cons (simR_st z7 (hv.same s7)) .nil), Nat.le_of_ble_eq_true rfl⟩, fun H8 wd b8 z8 h8 => ?_⟩
        have hR8 := b8.runs z7 (hR6.same s7)
        have hv8 := b8.st z7 (hv.same s7)
        obtain ⟨d0, w0, w1, rfl, hd0, e0, e1⟩ := sim_two2 h8
        have hw0 := sim_runs e0
        have hw1 := sim_stg e1
        clear b8 z7 s7 z6 hR6 hv e0 e1 h8 nl3 nl3p
        -- kept
        have bdr : ∀ r ∈ cs, KindOk r.1 ∧ r.2.natAbs < 10 ^ 60 := fun r hr => ⟨okR r hr, by have := (ok.2.1 r hr).2; omega⟩
        have bds : ∀ r, st = some r → KindOk r.1 ∧ r.2.natAbs < 10 ^ 60 := fun r e => ⟨(so r e).1, by have := (sb r e).2; rw [p40] at this; omega⟩
        obtain ⟨q0, Q0, n0⟩ := dps_runsN (K := K) hR8.dress bdr (by omega)
        obtain ⟨q1, Q1, n1⟩ := dps_stN (K := K) hv8.dress bds
        obtain ⟨q3, Q3, n3⟩ := dps_seq (K := K) (a := d0) (xs := [w0, w1]) (w := 6075) (n := 2) hd0 fun x hx => by
          rcases List.mem_cons.mp hx with e | e
          · rw [e]
            exact dps_runsN hw0 bdr (by omega)
          · rw [List.mem_singleton.mp e]
            obtain ⟨d, h1, h2⟩ := dps_stN (K := K) hw1 bds
            exact ⟨d, h1, h2.mono (by decide) (by decide)⟩
        have n3 : Nice 12152 3 q3 := n3.mono (by show (6075 + 1) * 2 ≤ 12152; decide) (Nat.le_refl _)
        have nd : Nice ((12152 + 1) * 3) 4 (.list [q0, q1, q3]) := nice_list (ds := [q0, q1, q3]) fun d hd => by
          rcases List.mem_cons.mp hd with e | e
          · rw [e]
            exact n0.mono (by decide) (by decide)
          · rcases List.mem_cons.mp e with e | e
            · rw [e]
              exact n1.mono (by decide) (by decide)
            · rw [List.mem_singleton.mp e]
              exact n3
        obtain ⟨f1, f2, f3⟩ := nd.fits (by decide) (by decide)
        have three : ∀ {H' : Hp} {x : Addr}, Same H8 H' → H' x = some (.lst [.ref L, v, .ref d0]) → Dp K H' (.ref x) (.list [q0, q1, q3]) := fun s h => .lst (.of h) (.cons (Q0 _ s) (.cons (Q1 _ s) (.cons (Q3 _ s) .nil)))
        refine ⟨_, rfl, _, rfl, _, rfl, (by show 3 ≤ sizeLine; decide), fun l4 nl4 => ⟨l4, _, rfl, three (same_upd nl4) upd_same, f1, f2, f3, ?_⟩⟩
        have s9 := same_upd (o := .lst [.ref L, v, .ref d0]) nl4
        generalize upd H8 l4 (.lst [.ref L, v, .ref d0]) = H9 at *
        -- reasons
        refine ⟨_, rfl, _, rfl, L, cs, v, st, rfl, hR8.same s9, ok, hv8.same s9, fun H10 pr s10 npr hrs => ?_⟩
        have s10 := s9.trans s10
        have hd10 := Sq2.sameR s10 hd0
        have hR10 := (hR8.same s10).dress
        have hRu10 := hR8.same s10
        have hv10 := hv8.same s10
        have hw010 := hw0.same s10
        have hw110 := hw1.same s10
        have z10 := z8.same s10
        have rw1 := rs_ok ok sb
        have rfF := rs_fl ok sb
        have l30 := rw1.1
        obtain ⟨zr, hzr, pzr⟩ := id hrs
        have lzr : zr.length = (rsR cs st).length := Paired.len pzr
        have fit2 : ∀ {d : PyData}, Nice 1010 1 d → Nice 2022 2 (.list [d, d]) := fun {d} h => (nice_list (w := 1010) (n := 1) (ds := [d, d]) fun e he => by
          rcases List.mem_cons.mp he with z | z
          · rw [z]; exact h
          · rw [List.mem_singleton.mp z]; exact h).mono (Nat.le_of_ble_eq_true rfl) (Nat.le_refl _)
        refine seq_gen (fun σ' H' => σ' = [some (.ref a), some (.ref p), some (.int (0 + i)), some (.ref L), some (.int (0 + j)), some v, some (.ref d0), some (.str (PyData.list [q0, q1, q3]).shown), some (.ref pr), y9', y10', y11', y12', y13'] ∧ H10 = H') (fun R hRr => hRr _ _ ⟨rfl, rfl⟩) (fun σ' H' hO => ?_)
        obtain ⟨rfl, rfl⟩ := hO
        -- the first reason
        obtain ⟨dD, nT, dA, dB, dN⟩ : ∃ dD : PyData, Nice 1010 1 dD ∧ (CanR cs st → ∀ H'', DpS K H'' .non dD) ∧ (∀ l r, rsR cs st = l :: r → ∀ H'' t, H'' t = some (.tup l) → DpS K H'' (.ref t) dD) ∧ ∀ (H' : Hp), Same H10 H' → ∃ vd, (zr ++ [V.non])[0]? = some vd ∧ DpS K H' vd dD ∧ ((CanR cs st ∧ vd = .non) ∨ (¬ CanR cs st ∧ ∃ t, vd = .ref t)) := by
          cases hl : rsR cs st with
          | nil =>
            refine ⟨.none, nice_none.mono (by decide) (by decide), fun _ _ _ _ => .non, (fun l r e => by cases e), fun H' s => ⟨.non, ?_, fun _ _ => .non, .inl ⟨rs_nil.mp hl, rfl⟩⟩⟩
            rw [hl] at lzr
            rw [List.eq_nil_of_length_eq_zero lzr]
            rfl
          | cons l r =>
            have fl := rfF l (by rw [hl]; exact List.mem_cons_self ..)
            have nc : ¬ CanR cs st := fun c => by
              rw [rs_nil.mpr c] at hl
              cases hl
            refine ⟨.tuple (l.map dFl), nice_flT fl, fun c => absurd c nc, fun l' r' e H'' t ht H3 s3 => ?_, fun H' s => ?_⟩
            · cases e
              exact .tup (.of (s3 _ _ ht)) (dp_fls fl.2)
            · rw [hl] at pzr
              cases pzr with
              | cons h1 h2 =>
                obtain ⟨t, rfl, ht⟩ := h1
                exact ⟨.ref t, rfl, fun H3 s3 => .tup (.of (s3 _ _ (s _ _ ht))) (dp_fls fl.2), .inr ⟨nc, t, rfl⟩⟩
        obtain ⟨f4, f5, f6⟩ := (fit2 nT).fits (by decide) (by decide)
        refine seq_gen (fun σ' H' => ∃ vd, σ' = [some (.ref a), some (.ref p), some (.int (0 + i)), some (.ref L), some (.int (0 + j)), some v, some (.ref d0), some (.str (PyData.list [q0, q1, q3]).shown), some (.ref pr), some vd, y10', y11', y12', y13'] ∧ Same H10 H' ∧ DpS K H' vd dD ∧ ((CanR cs st ∧ vd = .non) ∨ (¬ CanR cs st ∧ ∃ t, vd = .ref t))) (fun R hRr => ?_) (fun σ' H11 hO => ?_)
        · refine ⟨_, rfl, (by show 1 ≤ sizeLine; decide), fun ln nln => ?_⟩
          have sln := same_upd (o := .lst [.non]) nln
          refine ⟨pr, ln, zr, [.non], rfl, rfl, sln _ _ hzr, upd_same, smallE (by show zr.length + 1 ≤ _; omega), fun lc nlc => ?_⟩
          have sA := sln.trans (same_upd (o := .lst (zr ++ [.non])) nlc)
          obtain ⟨vd, e0, e1, e2⟩ := dN _ sA
          exact ⟨lc, _, 0, _, rfl, rfl, .of upd_same, atI_nat (j := 0) e0, hRr _ _ ⟨vd, rfl, sA, e1, e2⟩⟩
        obtain ⟨vd, rfl, s11, dvd, cvd⟩ := hO
        -- both answers
        refine seq_gen (fun σ' H' => σ' = [some (.ref a), some (.ref p), some (.int (0 + i)), some (.ref L), some (.int (0 + j)), some v, some (.ref d0), some (.str (PyData.list [q0, q1, q3]).shown), some (.ref pr), some vd, y10', y11', y12', y13'] ∧ Same H11 H') (fun R hRr => ?_) (fun σ' H12 hO => ?_)
        · by_cases c : CanR cs st
          · have no : ∀ {A : Prop} {l : List V} {r : List (List V)}, rsR cs st = l :: r → A := fun e => by
              rw [rs_nil.mpr c] at e
              cases e
            refine ⟨_, rfl, _, rfl, .ref L, v, cs, st, rfl, hR10.same s11, ok, (hv10.same s11).dress, so, fun _ H3 s3 => ⟨_, rfl, ?_⟩, fun l r e => no e⟩
            have d3 := dA c H3
            refine atS (Sq2.sameR (s11.trans s3) hd10) rfl ⟨_, rfl, atS (Sq2.sameR (s11.trans s3) hd10) rfl ⟨w0, w1, cs, st, rfl, hw010.same (s11.trans s3), ok, hw110.same (s11.trans s3), so, fun _ H4 s4 => ⟨(by show 2 ≤ sizeLine; decide), fun l5 nl5 => ?_⟩, fun l r e => no e⟩⟩
            have d4 := dA c H4
            have s5 := same_upd (o := .lst [.non, .non]) nl5
            refine ⟨l5, _, rfl, .lst (.of upd_same) (.cons (d3 _ (s4.trans s5)) (.cons (d4 _ s5) .nil)), f4, f5, f6, ?_⟩
            refine ⟨_, rfl, _, rfl, (by show 2 ≤ sizeLine; decide), fun l6 nl6 => ?_⟩
            have s6 := same_upd (o := .lst [vd, vd]) nl6
            have sB := s3.trans (s4.trans (s5.trans s6))
            exact ⟨l6, _, rfl, .lst (.of upd_same) (.cons (dvd _ sB) (.cons (dvd _ sB) .nil)), f4, f5, f6, rfl, _, rfl, iteN (by rw [decide_eq_true rfl]; rfl) (hRr _ _ ⟨rfl, sB⟩)⟩
          · refine ⟨_, rfl, _, rfl, .ref L, v, cs, st, rfl, hR10.same s11, ok, (hv10.same s11).dress, so, fun c' => absurd c' c, fun l r e H3 t3 s3 ht3 => ⟨_, rfl, ?_⟩⟩
            have d3 := dB l r e H3 t3 ht3
            refine atS (Sq2.sameR (s11.trans s3) hd10) rfl ⟨_, rfl, atS (Sq2.sameR (s11.trans s3) hd10) rfl ⟨w0, w1, cs, st, rfl, hw010.same (s11.trans s3), ok, hw110.same (s11.trans s3), so, fun c' => absurd c' c, fun l' r' e' H4 t4 s4 ht4 => ⟨(by show 2 ≤ sizeLine; decide), fun l5 nl5 => ?_⟩⟩⟩
            have d4 := dB l' r' e' H4 t4 ht4
            have s5 := same_upd (o := .lst [.ref t3, .ref t4]) nl5
            refine ⟨l5, _, rfl, .lst (.of upd_same) (.cons (d3 _ (s4.trans s5)) (.cons (d4 _ s5) .nil)), f4, f5, f6, ?_⟩
            refine ⟨_, rfl, _, rfl, (by show 2 ≤ sizeLine; decide), fun l6 nl6 => ?_⟩
            have s6 := same_upd (o := .lst [vd, vd]) nl6
            have sB := s3.trans (s4.trans (s5.trans s6))
            exact ⟨l6, _, rfl, .lst (.of upd_same) (.cons (dvd _ sB) (.cons (dvd _ sB) .nil)), f4, f5, f6, rfl, _, rfl, iteN (by rw [decide_eq_true rfl]; rfl) (hRr _ _ ⟨rfl, sB⟩)⟩
        obtain ⟨rfl, s12⟩ := hO
        have s012 := s11.trans s12
        -- can remain
        refine seq_gen (fun σ' H' => σ' = [some (.ref a), some (.ref p), some (.int (0 + i)), some (.ref L), some (.int (0 + j)), some v, some (.ref d0), some (.str (PyData.list [q0, q1, q3]).shown), some (.ref pr), some vd, y10', y11', y12', y13'] ∧ Same H12 H') (fun R hRr => ?_) (fun σ' H13 hO => ?_)
        · refine ⟨_, rfl, _, rfl, .ref L, v, cs, st, rfl, hR10.same s012, ok, (hv10.same s012).dress, so, fun c H3 s3 => ?_, fun c H3 s3 => ?_⟩
          · rcases cvd with ⟨_, e⟩ | ⟨n, _⟩
            · subst e
              exact ⟨_, rfl, rfl, rfl, _, rfl, iteN rfl (hRr _ _ ⟨rfl, s3⟩)⟩
            · exact absurd c n
          · rcases cvd with ⟨n, _⟩ | ⟨_, t, e⟩
            · exact absurd n c
            · subst e
              exact ⟨_, rfl, rfl, rfl, _, rfl, iteN rfl (hRr _ _ ⟨rfl, s3⟩)⟩
        obtain ⟨rfl, s13⟩ := hO
        have s013 := s012.trans s13
        clear s11 s12 s13 dvd s012
        -- the claims
        refine ⟨_, rfl, _, rfl, _, rfl, _, rfl, .ref p, v, L, pr, cs, st, rfl, hRu10.same s013, ok, hv10.same s013, sb, hrs.same s013, fun H14 qq s14 fd => ?_⟩
        have s014 := s013.trans s14
        obtain ⟨F, rF, lF, kF⟩ := fd.rp
        obtain ⟨xF, hxF, pF⟩ : ∃ xF, H14 qq = some (.lst xF) ∧ Paired (Rp H14) xF F := by
          cases rF with
          | lst e p => exact ⟨_, e, p⟩
        refine ⟨qq, rfl, ⟨_, .of hxF⟩, for_list (K := K) (a := qq) (xs := xF) (fun k σ H' => ∃ y10 y11 y12 y13, σ = [some (.ref a), some (.ref p), some (.int (0 + i)), some (.ref L), some (.int (0 + j)), some v, some (.ref d0), some (.str (PyData.list [q0, q1, q3]).shown), some (.ref pr), some vd, y10, y11, y12, y13] ∧ Same H14 H') ⟨_, _, _, _, rfl, Same.refl _⟩ (fun k σ H' _ hP => ?_) (fun k x σ H15 ex hP => ?_) (fun σ H15 hP => ?_)⟩
        · obtain ⟨_, _, _, _, _, sm⟩ := hP
          exact .of (sm _ _ hxF)
        · obtain ⟨y10, y11, y12, y13, rfl, s15⟩ := hP
          obtain ⟨d, ed, hd⟩ := Paired.at pF ex
          have cl := kF d (List.mem_of_getElem? ed)
          have hd15 := hd.same s15
          have s015 := s014.trans s15
          obtain ⟨g1, g2, g3⟩ := (bl2 (dueD (rsR cs st) d)).fits (by decide) (by decide)
          have rsp : ∀ {H' : Hp}, Same H10 H' → H' pr = some (.lst zr) ∧ DpAll K H' zr (Dat.pys ((rsR cs st).map rowD)) := fun s => ⟨s _ _ hzr, rps_dp (rp_rows (tups_same s pzr) fun r hr => (rw1.2 r hr).2) (nks_of fun e he => by
            obtain ⟨r, hr, rfl⟩ := List.mem_map.mp he
            exact (row_py (rw1.2 r hr).2).1)⟩
          refine seq_gen (fun σ' H' => σ' = [some (.ref a), some (.ref p), some (.int (0 + i)), some (.ref L), some (.int (0 + j)), some v, some (.ref d0), some (.str (PyData.list [q0, q1, q3]).shown), some (.ref pr), some vd, some x, some (.bl (aD (rsR cs st) d)), y12, y13] ∧ Same H15 H') (fun R hRr => ?_) (fun σ' H16 hO => ?_)
          · refine ⟨_, rfl, (by show 2 ≤ sizeLine; decide), fun t nt => ?_⟩
            have sT := same_upd (o := .tup [.ty "list", .ty "tuple"]) nt
            have hdT := hd15.same sT
            cases hdp : d.parts with
            | none =>
              obtain ⟨tv, h1, h2⟩ := hdT.noSeq (K := K) hdp
              refine ⟨_, t, _, _, _, false, rfl, upd_same, .cons (.ty "list") (.cons (.ty "tuple") .nil), h1, h2, false, rfl, iteF (hRr _ _ ⟨?_, sT⟩)⟩
              rw [(aD_none hdp).1]
              rfl
            | some l =>
              obtain ⟨a2, ys, rfl, hys, hyp⟩ := hdT.seq hdp
              obtain ⟨tv, h1, h2⟩ := Sq2.ty (K := K) hys
              obtain ⟨nk, sh, _⟩ := cl_shaped rw1 cl hdp
              refine ⟨_, t, _, _, _, true, rfl, upd_same, .cons (.ty "list") (.cons (.ty "tuple") .nil), h1, h2, true, rfl, iteT ⟨_, rfl, a2, ys, rfl, ?_⟩⟩
              rcases hys with hys | hys
              · refine .inl ⟨.of hys, fun n nn => ⟨_, rfl, ?_⟩⟩
                have sn := same_upd (o := .tup ys) nn
                obtain ⟨z1, z2⟩ := rsp (s015.trans (sT.trans sn))
                refine ⟨_, _, .tup (.of upd_same) (rps_dp (rps_same sn hyp) nk), .lst (.of z1) z2, sh, rows_shaped rw1, hRr _ _ ⟨?_, sT.trans sn⟩⟩
                rw [(aD_some hdp).1]
                rfl
              · refine .inr ⟨.of hys, _, rfl, ?_⟩
                obtain ⟨z1, z2⟩ := rsp (s015.trans sT)
                refine ⟨_, _, .tup (.of hys) (rps_dp hyp nk), .lst (.of z1) z2, sh, rows_shaped rw1, hRr _ _ ⟨?_, sT⟩⟩
                rw [(aD_some hdp).1]
                rfl
          obtain ⟨rfl, s16⟩ := hO
          refine seq_gen (fun σ' H' => ∃ y13, σ' = [some (.ref a), some (.ref p), some (.int (0 + i)), some (.ref L), some (.int (0 + j)), some v, some (.ref d0), some (.str (PyData.list [q0, q1, q3]).shown), some (.ref pr), some vd, some x, some (.bl (dueD (rsR cs st) d)), y12, y13] ∧ Same H16 H') (fun R hRr => ?_) (fun σ' H17 hO => ?_)
          · refine ⟨_, rfl, _, rfl, ?_⟩
            cases hdp : d.parts with
            | none =>
              obtain ⟨e1, e2⟩ := aD_none (rows := rsR cs st) hdp
              rw [e1]
              exact iteF (hRr _ _ ⟨y13, by rw [e2]; rfl, Same.refl _⟩)
            | some l =>
              obtain ⟨e1, e2⟩ := aD_some (rows := rsR cs st) hdp
              have bd := bools_due (l := l) rw1
              rw [e1]
              cases ea : anyD (rsR cs st) l with
              | false =>
                rw [ea] at bd
                exact iteF (hRr _ _ ⟨y13, by rw [e2, ← bd]; rfl, Same.refl _⟩)
              | true =>
                rw [ea, Bool.true_and] at bd
                have hd16 := hd15.same s16
                obtain ⟨a2, ys, rfl, hys, hyp⟩ := hd16.seq hdp
                have lys : ys.length = l.length := Paired.len hyp
                have l5 := (cl_part rw1 cl hdp).1
                refine iteT ⟨a2, ys, rfl, hys, fun J wk M nM => lc_wk wk (fun i H' => Same H16 H' ∧ H' M = some (.lst (((l.take i).filterMap Dat.bB).map V.bl))) (fun i H' p => p.1) ⟨same_upd nM, upd_same⟩ (fun i x H5 ex hP => ?_) (fun H5 hP => ?_)⟩
                · obtain ⟨sm, hM⟩ := hP
                  obtain ⟨r, er, hr1⟩ := Paired.at hyp ex
                  have hr5 := hr1.same sm
                  obtain ⟨tx, k1, k2⟩ := Rp.isB (K := K) hr5
                  have hi : i < ys.length := (List.getElem?_eq_some_iff.mp ex).1
                  have ef : (l.take (i + 1)).filterMap Dat.bB = (l.take i).filterMap Dat.bB ++ [r].filterMap Dat.bB := by rw [take_snoc er, List.filterMap_append]
                  refine ⟨rfl, _, rfl, _, _, _, _, _, rfl, .ty "bool", k1, k2, _, rfl, ?_⟩
                  cases eb : r.bB with
                  | none =>
                    refine iteF ⟨sm, ?_⟩
                    rw [ef, List.filterMap_cons, eb]
                    show _ = some (HO.lst ((_ ++ []).map V.bl))
                    rw [List.append_nil]
                    exact hM
                  | some bb =>
                    have er2 : r = .bl bb := by
                      cases r with
                      | bl z => cases eb; rfl
                      | _ => cases eb
                    subst er2
                    cases hr5
                    refine iteT ⟨_, rfl, _, hM, ?_, same_grow nM sm, ?_⟩
                    · have := List.length_filterMap_le Dat.bB (l.take i)
                      rw [List.length_take] at this
                      rw [List.length_map]
                      exact small (by omega)
                    · rw [upd_same, ef, List.filterMap_cons, eb, List.map_append]
                      rfl
                obtain ⟨s5, hM⟩ := hP
                rw [lys, List.take_length] at hM
                refine ⟨Nat.zero_le _, fun N nN => ?_⟩
                have sN := same_upd (o := .lst []) nN
                refine ⟨.list ((l.filterMap Dat.bB).map PyData.bool), .list (([] : List Bool).map PyData.bool), .lst (.of (sN _ _ hM)) (dp_bls _), .lst (.of upd_same) .nil, shaped_bls _, shaped_bls _, ?_⟩
                rw [show PyData.eqv (.list ((l.filterMap Dat.bB).map PyData.bool)) (.list (([] : List Bool).map PyData.bool)) = _ from eqv_nilD]
                have eE : ((l.filterMap Dat.bB).map PyData.bool).isEmpty = dueD (rsR cs st) d := by
                  rw [e2, ← bd, List.isEmpty_map]
                rw [eE]
                exact hRr _ _ ⟨_, rfl, s5.trans sN⟩
          obtain ⟨y13, rfl, s17⟩ := hO
          have s017 := s015.trans (s16.trans s17)
          have hd17 := hd15.same (s16.trans s17)
          refine ⟨_, rfl, _, rfl, _, rfl, .ref L, v, x, cs, st, d, rfl, hR10.same s017, ok, (hv10.same s017).dress, sb, hd17, cl, fun H3 s3 => ⟨_, rfl, ?_⟩⟩
          refine atS (Sq2.sameR (s017.trans s3) hd10) rfl ⟨_, rfl, atS (Sq2.sameR (s017.trans s3) hd10) rfl ⟨_, rfl, w0, w1, x, cs, st, d, rfl, hw010.same (s017.trans s3), ok, hw110.same (s017.trans s3), sb, hd17.same s3, cl, fun H4 s4 => ⟨(by show 2 ≤ sizeLine; decide), fun l5 nl5 => ?_⟩⟩⟩
          refine ⟨_, rfl, l5, _, rfl, .lst (.of upd_same) (.cons (.bl _) (.cons (.bl _) .nil)), g1, g2, g3, ?_⟩
          refine ⟨_, rfl, _, rfl, (by show 2 ≤ sizeLine; decide), fun l6 nl6 => ?_⟩
          have sZ := s3.trans (s4.trans ((same_upd (o := .lst [.bl (dueD (rsR cs st) d), .bl (dueD (rsR cs st) d)]) nl5).trans (same_upd (o := .lst [.bl (dueD (rsR cs st) d), .bl (dueD (rsR cs st) d)]) nl6)))
          exact ⟨l6, _, rfl, .lst (.of upd_same) (.cons (.bl _) (.cons (.bl _) .nil)), g1, g2, g3, rfl, _, rfl, iteN (by rw [decide_eq_true rfl]; rfl) ⟨_, _, _, _, rfl, s15.trans ((s16.trans s17).trans sZ)⟩⟩
        · obtain ⟨y10, y11, y12, y13, rfl, s15⟩ := hP
          have sE := s10.trans (s014.trans s15)
          refine ⟨_, rfl, _, rfl, _, rfl, (by show 3 ≤ sizeLine; decide), fun l8 nl8 => ⟨l8, _, rfl, three (sE.trans (same_upd nl8)) upd_same, f1, f2, f3, _, rfl, rfl, _, rfl, iteN (by rw [decide_eq_true rfl]; rfl) ?_⟩⟩
          have sF := sE.trans (same_upd (o := .lst [.ref L, v, .ref d0]) nl8)
          exact ⟨_, _, _, _, _, _, _, _, _, _, rfl, z8.same sF, hR8.same sF⟩
      · obtain ⟨y4', y5', y6', y7', y8', y9', y10', y11', y12', y13', rfl, z5, _⟩ := hP
        exact ⟨_, _, _, _, _, _, _, _, _, _, _, _, rfl, z5⟩
    · exact q _
end
end UP

set_option Elab.async false
set_option linter.all false
set_option maxRecDepth 100000
set_option maxHeartbeats 4000000
namespace UP
open PySem PySem.Spec PyProof.Rows L2
section
variable {K : PySem.W.Frag} {h : Heap} {mg : Str → Option Value}
theorem df_mk {x : Str} {st : Stmt} {f : Addr} {od an : Option Addr} {sl : Array (Option Value)} {oc kV dc pm cd ct : Value} (X : K.In h) (G : h.Ns mainGlobals mg) (a : PySem.W.nsIn K mainGlobals x = some (some (.ref f)))
    (l : K.lookup f = some ⟨oc, od, .func (PySem.W.fnOf x x (defArgs st) (defBody st) (defScope st) .none kV dc pm an cd ct), sl⟩) (c : PySem.W.codeIn K cd x = true) (k : PySem.W.keepIn K (.ref f) = true) : Df K mg x st :=
  ⟨f, _, PySem.W.mg_of X G a, fun_mk l c k⟩
theorem dfd_mk {x : Str} {st : Stmt} {f T : Addr} {od an od2 : Option Addr} {sl sl2 : Array (Option Value)} {n2 : Nat} {oc kV dc pm cd ct oc2 : Value} (X : K.In h) (G : h.Ns mainGlobals mg) (a : PySem.W.nsIn K mainGlobals x = some (some (.ref f)))
    (l : K.lookup f = some ⟨oc, od, .func (PySem.W.fnOf x x (defArgs st) (defBody st) (defScope st) (.ref T) kV dc pm an cd ct), sl⟩) (t : K.lookup T = some ⟨oc2, od2, .seq #[.none] n2, sl2⟩) (c : PySem.W.codeIn K cd x = true) (k : PySem.W.keepIn K (.ref f) = true) : DfD K mg x st [.non] :=
  ⟨f, _, PySem.W.mg_of X G a, ⟨⟨oc, od, _, kV, dc, pm, an, cd, ct, sl, rfl, l, c, .inr ⟨(by intro z; cases z), T, _, [.none], n2, rfl, t, rfl, .cons rfl .nil⟩, .inl rfl⟩, k⟩⟩
theorem cst_mk {x : Str} {i : Int} {t : Tok} (X : K.In h) (G : h.Ns mainGlobals mg) (a : PySem.W.nsIn K mainGlobals x = some (some (.int i t))) : ∃ t, mg x = some (.int i t) := ⟨t, PySem.W.mg_of X G a⟩
end
/-- all that the top has written -/
structure Top (K : PySem.W.Frag) (mg : Str → Option Value) : Prop where
  T : Tx mg
  d_is_whole : Df K mg "is_whole" s_is_whole
  d_is_within : Df K mg "is_within" s_is_within
  d_is_listed : Df K mg "is_listed" s_is_listed
  d_is_couple : Df K mg "is_couple" s_is_couple
  d_is_kind : Df K mg "is_kind" s_is_kind
  d_is_run : Df K mg "is_run" s_is_run
  d_is_state : Df K mg "is_state" s_is_state
  d_checked_state : Df K mg "checked_state" s_checked_state
  d_length_of : Df K mg "length_of" s_length_of
  d_waiting_number : Df K mg "waiting_number" s_waiting_number
  d_kind_of : Df K mg "kind_of" s_kind_of
  d_is_counts : Df K mg "is_counts" s_is_counts
  d_checked_counts : Df K mg "checked_counts" s_checked_counts
  d_counts_without : Df K mg "counts_without" s_counts_without
  d_majority_in : Df K mg "majority_in" s_majority_in
  d_reasons_in : Df K mg "reasons_in" s_reasons_in
  d_is_flat : Df K mg "is_flat" s_is_flat
  d_can_remain : Df K mg "can_remain" s_can_remain
  d_reason_against : Df K mg "reason_against" s_reason_against
  d_shows_against : Df K mg "shows_against" s_shows_against
  d_law_reel : Df K mg "_law_reel" s_law_reel
  d_law_draw : Df K mg "_law_draw" s_law_draw
  d_law_names : Df K mg "_law_names" s_law_names
  d_law_state : Df K mg "_law_state" s_law_state
  d_law_counts : Df K mg "_law_counts" s_law_counts
  d_law_of : Df K mg "_law_of" s_law_of
  d_law_dressed : Df K mg "_law_dressed" s_law_dressed
  d_law_reasons : Df K mg "_law_reasons" s_law_reasons
  d_law_question : Df K mg "_law_question" s_law_question
  d_law_claims : Df K mg "_law_claims" s_law_claims
theorem Top.law {P : Program} {w : World} {K : PySem.W.Frag} {mg : Str → Option Value} (Y : Top K mg) {f : Addr} {fd : FuncData} (F : Fun K "law" "law" s_law f fd) (base : Heap) : FnC P w K mg base f fd ["script"] (sp_law K) := by
  have T := Y.T
  have g_is_whole := ok_is_whole (P := P) (w := w) (base := base) Y.d_is_whole T
  have g_is_within := ok_is_within (P := P) (w := w) (base := base) Y.d_is_within g_is_whole
  have g_is_listed := ok_is_listed (P := P) (w := w) (base := base) Y.d_is_listed T
  have g_is_couple := ok_is_couple (P := P) (w := w) (base := base) Y.d_is_couple T
  have g_is_kind := ok_is_kind (P := P) (w := w) (base := base) Y.d_is_kind T
  have g_is_run := ok_is_run (P := P) (w := w) (base := base) Y.d_is_run T g_is_couple g_is_kind g_is_within
  have g_is_state := ok_is_state (P := P) (w := w) (base := base) Y.d_is_state T g_is_couple g_is_kind g_is_whole
  have g_checked_state := ok_checked_state (P := P) (w := w) (base := base) Y.d_checked_state T g_is_state
  have g_length_of := ok_length_of (P := P) (w := w) (base := base) Y.d_length_of T
  have g_waiting_number := ok_waiting_number (P := P) (w := w) (base := base) Y.d_waiting_number
  have g_law_draw := ok_law_draw (P := P) (w := w) (base := base) Y.d_law_draw T
  have g_law_reel := ok_law_reel (P := P) (w := w) (base := base) Y.d_law_reel T
  have g_law_names := ok_law_names (P := P) (w := w) (base := base) Y.d_law_names T g_law_draw
  have g_law_state := ok_law_state (P := P) (w := w) (base := base) Y.d_law_state T g_law_draw
  have g_law_dressed := ok_law_dressed (P := P) (w := w) (base := base) Y.d_law_dressed T g_law_draw 3
  have g_kind_of := ok_kind_of (P := P) (w := w) (base := base) Y.d_kind_of
  have g_law_of := ok_law_of (P := P) (w := w) (base := base) Y.d_law_of
  have g_is_counts := ok_is_counts (P := P) (w := w) (base := base) Y.d_is_counts T g_is_listed g_is_run
  have g_checked_counts := ok_checked_counts (P := P) (w := w) (base := base) Y.d_checked_counts T g_is_counts
  have g_counts_without := ok_counts_without (P := P) (w := w) (base := base) Y.d_counts_without g_kind_of g_waiting_number
  have g_majority_in := ok_majority_in (P := P) (w := w) (base := base) Y.d_majority_in g_length_of
  have g_reasons_in := ok_reasons_in (P := P) (w := w) (base := base) Y.d_reasons_in T g_counts_without g_length_of g_kind_of g_waiting_number g_majority_in
  have g_reason_against := ok_reason_against (P := P) (w := w) (base := base) Y.d_reason_against T g_checked_counts g_checked_state g_reasons_in
  have g_can_remain := ok_can_remain (P := P) (w := w) (base := base) Y.d_can_remain g_reason_against
  have g_law_counts := ok_law_counts (P := P) (w := w) (base := base) Y.d_law_counts T g_law_draw g_law_names
  have gD_is_whole := okD_is_whole (P := P) (w := w) (base := base) Y.d_is_whole T
  have gD_is_listed := okD_is_listed (P := P) (w := w) (base := base) Y.d_is_listed T
  have gD_is_couple := okD_is_couple (P := P) (w := w) (base := base) Y.d_is_couple T
  have g_law_reasons := ok_law_reasons (P := P) (w := w) (base := base) Y.d_law_reasons T
  have gD_is_flat := okD_is_flat (P := P) (w := w) (base := base) Y.d_is_flat T gD_is_listed gD_is_whole
  have gD_shows_against := okD_shows_against (P := P) (w := w) (base := base) Y.d_shows_against T g_checked_counts g_checked_state g_reasons_in gD_is_flat
  have g_law_claims := ok_law_claims (P := P) (w := w) (base := base) Y.d_law_claims T
  have g_law_question := ok_law_question (P := P) (w := w) (base := base) Y.d_law_question T g_law_draw g_law_state g_law_of
  exact fn_law F T g_law_reel g_law_draw g_law_counts g_law_question g_law_dressed g_law_reasons g_law_claims g_reason_against g_can_remain gD_shows_against
theorem all_mk {P : Program} {w : World} {K : PySem.W.Frag} {h : Heap} {mg : Str → Option Value} {fa f : Addr} {od an : Option Addr} {sl : Array (Option Value)} {oc kV dc pm cd ct : Value} (X : K.In h) (G : h.Ns mainGlobals mg) (hfa : mg "law" = some (.ref fa)) (a : PySem.W.nsIn K mainGlobals "law" = some (some (.ref f)))
    (l : K.lookup f = some ⟨oc, od, .func (PySem.W.fnOf "law" "law" (defArgs s_law) (defBody s_law) (defScope s_law) .none kV dc pm an cd ct), sl⟩) (c : PySem.W.codeIn K cd "law" = true) (k : PySem.W.keepIn K (.ref f) = true) (Y : Top K mg) :
    ∃ fd : FuncData, (∀ (s : Shared) (v : Value), BindsTo s fd ⟨[v], []⟩ [("script", v)]) ∧ ∀ base : Heap, K.In base → base.Ns mainGlobals mg → FnC P w K mg base fa fd ["script"] (sp_law K) := by
  have e := hfa.symm.trans (PySem.W.mg_of X G a)
  cases e
  exact ⟨_, fun s v => .of_eq rfl, fun base _ _ => Y.law (fun_mk (st := s_law) l c k) base⟩
end UP
open PySem PySem.W PyProof.Rows
set_option maxHeartbeats 0 in
theorem PySem.Challenge.cw_unlikepairs_k32_reasons_against_states_holds : PySem.Challenge.rw_unlikepairs_k32_reasons_against_states.Holds := by
  w_on; o_law; k_head; (case hw => w_witness2)
  k_fill
  refine UP.walkC (l := PySem.Challenge.rw_unlikepairs_k32_reasons_against_states) (n := 63) (x := "script") (sp := fun w => UP.sp_law _) rfl (by decide) rfl (fun w h Y => PySem.W.kIn_of Y) ?F (fun _ _ a ns hl hS => ⟨a, ns, rfl, hS, hl, fun _ => rfl⟩)
  case F =>
    intro w mg fa h KX G hmg
    refine' UP.all_mk KX G hmg ?a ?l ?c ?k ?Y
    (case a => k_is); (case l => k_is); (case c => k_is); (case k => k_is)
    case Y =>
      constructor
      · constructor
        · refine' PySem.W.mg_none_of KX G ?z; (case z => k_is)
        · refine' PySem.W.mg_none_of KX G ?z; (case z => k_is)
        · refine' PySem.W.mg_none_of KX G ?z; (case z => k_is)
        · refine' PySem.W.mg_none_of KX G ?z; (case z => k_is)
        · refine' PySem.W.mg_none_of KX G ?z; (case z => k_is)
        · refine' PySem.W.mg_none_of KX G ?z; (case z => k_is)
        · refine' PySem.W.mg_none_of KX G ?z; (case z => k_is)
        · refine' PySem.W.mg_none_of KX G ?z; (case z => k_is)
        · refine' PySem.W.mg_none_of KX G ?z; (case z => k_is)
        · refine' PySem.W.mg_none_of KX G ?z; (case z => k_is)
        · refine' PySem.W.mg_none_of KX G ?z; (case z => k_is)
        · refine' PySem.W.mg_none_of KX G ?z; (case z => k_is)
        · refine' PySem.W.mg_none_of KX G ?z; (case z => k_is)
        · refine' PySem.W.mg_none_of KX G ?z; (case z => k_is)
        · refine' PySem.W.mg_none_of KX G ?z; (case z => k_is)
        · refine' PySem.W.mg_none_of KX G ?z; (case z => k_is)
        · refine' PySem.W.mg_none_of KX G ?z; (case z => k_is)
        · refine' PySem.W.mg_none_of KX G ?z; (case z => k_is)
        · refine' PySem.W.mg_none_of KX G ?z; (case z => k_is)
        · refine' PySem.W.mg_none_of KX G ?z; (case z => k_is)
        · refine' PySem.W.mg_none_of KX G ?z; (case z => k_is)
        · refine' UP.cst_mk KX G ?z; (case z => k_is)
        · refine' UP.cst_mk KX G ?z; (case z => k_is)
        · refine' UP.cst_mk KX G ?z; (case z => k_is)
      · refine' UP.df_mk KX G ?a ?l ?c ?k; (case a => k_is); (case l => k_is); (case c => k_is); (case k => k_is)
      · refine' UP.df_mk KX G ?a ?l ?c ?k; (case a => k_is); (case l => k_is); (case c => k_is); (case k => k_is)
      · refine' UP.df_mk KX G ?a ?l ?c ?k; (case a => k_is); (case l => k_is); (case c => k_is); (case k => k_is)
      · refine' UP.df_mk KX G ?a ?l ?c ?k; (case a => k_is); (case l => k_is); (case c => k_is); (case k => k_is)
      · refine' UP.df_mk KX G ?a ?l ?c ?k; (case a => k_is); (case l => k_is); (case c => k_is); (case k => k_is)
      · refine' UP.df_mk KX G ?a ?l ?c ?k; (case a => k_is); (case l => k_is); (case c => k_is); (case k => k_is)
      · refine' UP.df_mk KX G ?a ?l ?c ?k; (case a => k_is); (case l => k_is); (case c => k_is); (case k => k_is)
      · refine' UP.df_mk KX G ?a ?l ?c ?k; (case a => k_is); (case l => k_is); (case c => k_is); (case k => k_is)
      · refine' UP.df_mk KX G ?a ?l ?c ?k; (case a => k_is); (case l => k_is); (case c => k_is); (case k => k_is)
      · refine' UP.df_mk KX G ?a ?l ?c ?k; (case a => k_is); (case l => k_is); (case c => k_is); (case k => k_is)
      · refine' UP.df_mk KX G ?a ?l ?c ?k; (case a => k_is); (case l => k_is); (case c => k_is); (case k => k_is)
      · refine' UP.df_mk KX G ?a ?l ?c ?k; (case a => k_is); (case l => k_is); (case c => k_is); (case k => k_is)
      · refine' UP.df_mk KX G ?a ?l ?c ?k; (case a => k_is); (case l => k_is); (case c => k_is); (case k => k_is)
      · refine' UP.df_mk KX G ?a ?l ?c ?k; (case a => k_is); (case l => k_is); (case c => k_is); (case k => k_is)
      · refine' UP.df_mk KX G ?a ?l ?c ?k; (case a => k_is); (case l => k_is); (case c => k_is); (case k => k_is)
      · refine' UP.df_mk KX G ?a ?l ?c ?k; (case a => k_is); (case l => k_is); (case c => k_is); (case k => k_is)
      · refine' UP.df_mk KX G ?a ?l ?c ?k; (case a => k_is); (case l => k_is); (case c => k_is); (case k => k_is)
      · refine' UP.df_mk KX G ?a ?l ?c ?k; (case a => k_is); (case l => k_is); (case c => k_is); (case k => k_is)
      · refine' UP.df_mk KX G ?a ?l ?c ?k; (case a => k_is); (case l => k_is); (case c => k_is); (case k => k_is)
      · refine' UP.df_mk KX G ?a ?l ?c ?k; (case a => k_is); (case l => k_is); (case c => k_is); (case k => k_is)
      · refine' UP.df_mk KX G ?a ?l ?c ?k; (case a => k_is); (case l => k_is); (case c => k_is); (case k => k_is)
      · refine' UP.df_mk KX G ?a ?l ?c ?k; (case a => k_is); (case l => k_is); (case c => k_is); (case k => k_is)
      · refine' UP.df_mk KX G ?a ?l ?c ?k; (case a => k_is); (case l => k_is); (case c => k_is); (case k => k_is)
      · refine' UP.df_mk KX G ?a ?l ?c ?k; (case a => k_is); (case l => k_is); (case c => k_is); (case k => k_is)
      · refine' UP.df_mk KX G ?a ?l ?c ?k; (case a => k_is); (case l => k_is); (case c => k_is); (case k => k_is)
      · refine' UP.df_mk KX G ?a ?l ?c ?k; (case a => k_is); (case l => k_is); (case c => k_is); (case k => k_is)
      · refine' UP.df_mk KX G ?a ?l ?c ?k; (case a => k_is); (case l => k_is); (case c => k_is); (case k => k_is)
      · refine' UP.df_mk KX G ?a ?l ?c ?k; (case a => k_is); (case l => k_is); (case c => k_is); (case k => k_is)
      · refine' UP.df_mk KX G ?a ?l ?c ?k; (case a => k_is); (case l => k_is); (case c => k_is); (case k => k_is)
      · refine' UP.df_mk KX G ?a ?l ?c ?k; (case a => k_is); (case l => k_is); (case c => k_is); (case k => k_is)
