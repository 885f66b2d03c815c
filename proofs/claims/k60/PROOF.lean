import PyProof.Rows.All
import Wide.All
import OpenK.AllK
import Wide.FinOn
import KE.KStateDown
import HandS.Head0
import HandS.Head1
import HandS.Head2
import HandS.ForMost
import HandS.Exc
import HandS.ExcInit
import HandS.IsInst
import HandS.Walk
import HandS.Evl
import HandS.Defaults
import HandS.SortInts
import PyProof.ZipIter
import PyProof.CallType
import PyProof.Walk
import PyProof.WalkLemmas
import PyProof.RangeIter
import PyProof.RulesTry
import HandS.Conv
import HandS.MapObj
import HandS.Comp
import HandS.DictComp
import HandS.TupAny
import KE.GoesMore
import PyProof.EnumMake
import HandS.Iter
import HandS.WideBits
import HandS.Text
import HandS.MakeKwOnly
import HandS.OwnEq
import PyProof.InstNe
import PyProof.InstEq
import HandS.TupMul
import HandS.TryOnly
import PyProof.RangeFor
import PyProof.AutoRange
import HandS.Gcd
import HandS.SortKw
import KE.KMathG
import KE.DataMinMax
import KE.DatumOrd
import KE.OsMinMax
import HandS.HeadEnd
import HandS.HeadHook1
import HandS.HeadHook2
import HandS.HeadHook3
import HandS.HeadHook4
import PySem.Challenge.RW_crewlags_k60_whole_calendars_that_never
set_option Elab.async false
set_option autoImplicit false
set_option linter.all false
set_option maxRecDepth 100000
set_option maxHeartbeats 0
/-! The head of a text that begins with a row that takes in a module: the state behind that row, written out. -/
namespace Ib
open PySem PySem.W PySem.Calls PyProof.Rows HandSHeadRun
noncomputable section
abbrev dE (P : Params) (k : PySem.Str) (t : Nat) (v : Value) : DictEntry := ⟨PyData.keyHash P k, .str k t, v⟩
def ib_1 (P : Params) : Obj := ⟨(.type "dict"), none, .dict #[dE P "builtins" 162 (.ref 4),
    dE P "__main__" 163 (.ref 5),
    dE P "math" 284 (.ref 13)] 3, #[]⟩
def ib_2 (P : Params) : Obj := ⟨.none, none, .dict #[dE P "\u0069mport.loaded.math" 185 (.bool true),
    dE P "class._frozen_importlib_external._LoaderBasics" 190 (.ref 16),
    dE P "watched.\u0069mport" 206 (.ref 20),
    dE P "class._frozen_importlib_external.FileLoader" 207 (.ref 22),
    dE P "class._frozen_importlib_external.ExtensionFileLoader" 228 (.ref 27),
    dE P "class._frozen_importlib.ModuleSpec" 256 (.ref 33),
    dE P "sys.modules.booked-epoch" 285 (.int 3 0),
    dE P "\u0069mport.later-laid.math" 361 (.bool true),
    dE P "watched.library" 363 (.ref 38),
    dE P "watched.library-objects" 0 (.str "\u000d" 0)] 10, #[]⟩
def ib_3 (P : Params) : Obj := ⟨(.type "dict"), none, .dict #[dE P "__name__" 165 (.str "__main__" 164),
    dE P "__doc__" 166 .none,
    dE P "__package__" 167 .none,
    dE P "__loader__" 168 (.builtin "__main__.__loader__#opaque"),
    dE P "__spec__" 169 .none,
    dE P "__annotations__" 170 (.ref 6),
    dE P "__builtins__" 171 (.ref 4),
    dE P "__file__" 173 (.str "/claim/cut.py" 172),
    dE P "__cached__" 174 .none,
    dE P "lcm" 369 (.builtin "math.lcm")] 10, #[]⟩
def ib_11 (P : Params) : Obj := ⟨(.type "tuple"), none, .seq #[(.str "lcm" 182)] 0, #[]⟩
def ib_12 (P : Params) : Obj := ⟨(.type "dict"), none, .dict #[dE P "__name__" 287 (.str "math" 286),
    dE P "__doc__" 288 (.builtin "math.__doc__:str#opaque"),
    dE P "__package__" 290 (.str "" 289),
    dE P "__loader__" 291 (.ref 29),
    dE P "__spec__" 292 (.ref 37),
    dE P "acos" 293 (.builtin "math.acos"),
    dE P "acosh" 294 (.builtin "math.acosh"),
    dE P "asin" 295 (.builtin "math.asin"),
    dE P "asinh" 296 (.builtin "math.asinh"),
    dE P "atan" 297 (.builtin "math.atan"),
    dE P "atan2" 298 (.builtin "math.atan2"),
    dE P "atanh" 299 (.builtin "math.atanh"),
    dE P "cbrt" 300 (.builtin "math.cbrt"),
    dE P "ceil" 301 (.builtin "math.ceil"),
    dE P "copysign" 302 (.builtin "math.copysign"),
    dE P "cos" 303 (.builtin "math.cos"),
    dE P "cosh" 304 (.builtin "math.cosh"),
    dE P "degrees" 305 (.builtin "math.degrees"),
    dE P "dist" 306 (.builtin "math.dist"),
    dE P "erf" 307 (.builtin "math.erf"),
    dE P "erfc" 308 (.builtin "math.erfc"),
    dE P "exp" 309 (.builtin "math.exp"),
    dE P "exp2" 310 (.builtin "math.exp2"),
    dE P "expm1" 311 (.builtin "math.expm1"),
    dE P "fabs" 312 (.builtin "math.fabs"),
    dE P "factorial" 313 (.builtin "math.factorial"),
    dE P "floor" 314 (.builtin "math.floor"),
    dE P "fma" 315 (.builtin "math.fma"),
    dE P "fmod" 316 (.builtin "math.fmod"),
    dE P "frexp" 317 (.builtin "math.frexp"),
    dE P "fsum" 318 (.builtin "math.fsum"),
    dE P "gamma" 319 (.builtin "math.gamma"),
    dE P "gcd" 320 (.builtin "math.gcd"),
    dE P "hypot" 321 (.builtin "math.hypot"),
    dE P "isclose" 322 (.builtin "math.isclose"),
    dE P "isfinite" 323 (.builtin "math.isfinite"),
    dE P "isinf" 324 (.builtin "math.isinf"),
    dE P "isnan" 325 (.builtin "math.isnan"),
    dE P "isqrt" 326 (.builtin "math.isqrt"),
    dE P "lcm" 327 (.builtin "math.lcm"),
    dE P "ldexp" 328 (.builtin "math.ldexp"),
    dE P "lgamma" 329 (.builtin "math.lgamma"),
    dE P "log" 330 (.builtin "math.log"),
    dE P "log1p" 331 (.builtin "math.log1p"),
    dE P "log10" 332 (.builtin "math.log10"),
    dE P "log2" 333 (.builtin "math.log2"),
    dE P "modf" 334 (.builtin "math.modf"),
    dE P "pow" 335 (.builtin "math.pow"),
    dE P "radians" 336 (.builtin "math.radians"),
    dE P "remainder" 337 (.builtin "math.remainder"),
    dE P "sin" 338 (.builtin "math.sin"),
    dE P "sinh" 339 (.builtin "math.sinh"),
    dE P "sqrt" 340 (.builtin "math.sqrt"),
    dE P "tan" 341 (.builtin "math.tan"),
    dE P "tanh" 342 (.builtin "math.tanh"),
    dE P "sumprod" 343 (.builtin "math.sumprod"),
    dE P "trunc" 344 (.builtin "math.trunc"),
    dE P "prod" 345 (.builtin "math.prod"),
    dE P "perm" 346 (.builtin "math.perm"),
    dE P "comb" 347 (.builtin "math.comb"),
    dE P "nextafter" 348 (.builtin "math.nextafter"),
    dE P "ulp" 349 (.builtin "math.ulp"),
    dE P "__file__" 350 (.str ⟨#[47, 110, 105, 120, 47, 115, 116, 111, 114, 101, 47, 119, 106, 49, 102, 53, 54, 113, 107, 121, 52, 112, 109, 106, 99, 55, 108, 48, 114, 54, 98, 54, 108, 55, 119, 104, 110, 110, 119, 55, 104, 112, 54, 45, 112, 121, 116, 104, 111, 110, 51, 45, 51, 46, 49, 51, 46, 49, 53, 47, 108, 105, 98, 47, 112, 121, 116, 104, 111, 110, 51, 46, 49, 51, 47, 108, 105, 98, 45, 100, 121, 110, 108, 111, 97, 100, 47, 109, 97, 116, 104, 46, 99, 112, 121, 116, 104, 111, 110, 45, 51, 49, 51, 45, 120, 56, 54, 95, 54, 52, 45, 108, 105, 110, 117, 120, 45, 103, 110, 117, 46, 115, 111]⟩ 186),
    dE P "pi" 352 (.float 4614256656552045848 351),
    dE P "e" 354 (.float 4613303445314885481 353),
    dE P "tau" 356 (.float 4618760256179416344 355),
    dE P "inf" 358 (.float 9218868437227405312 357),
    dE P "nan" 360 (.float 9221120237041090560 359)] 68, #[]⟩
def ib_13 (P : Params) : Obj := ⟨(.type "module"), some 12, .plain, #[]⟩
def ib_14 (P : Params) : Obj := ⟨(.type "dict"), none, .dict #[dE P "name" 188 (.str "math" 187),
    dE P "path" 189 (.str ⟨#[47, 110, 105, 120, 47, 115, 116, 111, 114, 101, 47, 119, 106, 49, 102, 53, 54, 113, 107, 121, 52, 112, 109, 106, 99, 55, 108, 48, 114, 54, 98, 54, 108, 55, 119, 104, 110, 110, 119, 55, 104, 112, 54, 45, 112, 121, 116, 104, 111, 110, 51, 45, 51, 46, 49, 51, 46, 49, 53, 47, 108, 105, 98, 47, 112, 121, 116, 104, 111, 110, 51, 46, 49, 51, 47, 108, 105, 98, 45, 100, 121, 110, 108, 111, 97, 100, 47, 109, 97, 116, 104, 46, 99, 112, 121, 116, 104, 111, 110, 45, 51, 49, 51, 45, 120, 56, 54, 95, 54, 52, 45, 108, 105, 110, 117, 120, 45, 103, 110, 117, 46, 115, 111]⟩ 186)] 2, #[]⟩
def ib_15 (P : Params) : Obj := ⟨(.type "dict"), none, .dict #[dE P "__module__" 193 (.str "_frozen_importlib_external" 191),
    dE P "__firstlineno__" 194 (.int 1001 192),
    dE P "__doc__" 195 (.builtin "_frozen_importlib_external._LoaderBasics.__doc__:str#opaque"),
    dE P "is_package" 196 (.builtin "_frozen_importlib_external._LoaderBasics.is_package#opaque"),
    dE P "create_module" 197 (.builtin "_frozen_importlib_external._LoaderBasics.create_module#opaque"),
    dE P "exec_module" 198 (.builtin "_frozen_importlib_external._LoaderBasics.exec_module#opaque"),
    dE P "load_module" 199 (.builtin "_frozen_importlib_external._LoaderBasics.load_module#opaque"),
    dE P "__static_attributes__" 200 (.ref 17),
    dE P "__dict__" 202 (.ref 18),
    dE P "__weakref__" 204 (.ref 19)] 10, #[]⟩
def ib_16 (P : Params) : Obj := ⟨(.type "type"), none, .cls { name := "_LoaderBasics", bases := [(.type "object")], mro := [(.ref 16), (.type "object")], ns := 15, qualname := "_LoaderBasics", hasDict := true, slotNames := [], subclasses := [(.ref 27)], abstract := false, collection := none, hasDel := false }, #[]⟩
def ib_17 (P : Params) : Obj := ⟨(.type "tuple"), none, .seq #[] 0, #[]⟩
def ib_18 (P : Params) : Obj := ⟨(.type "getset_descriptor"), none, .fields #[(.str "__dict__" 201), (.ref 16), (.builtin "function.__dict__"), (.builtin "function.__dict__#set")], #[]⟩
def ib_19 (P : Params) : Obj := ⟨(.type "getset_descriptor"), none, .fields #[(.str "__weakref__" 203), (.ref 16), (.builtin "ExceptionGroup.__weakref__"), .none], #[]⟩
def ib_20 (P : Params) : Obj := ⟨.none, none, .seq #[(.int 15 0), (.str ⟨#[6, 193, 10, 95, 95, 109, 111, 100, 117, 108, 101, 95, 95, 6, 191, 26, 95, 102, 114, 111, 122, 101, 110, 95, 105, 109, 112, 111, 114, 116, 108, 105, 98, 95, 101, 120, 116, 101, 114, 110, 97, 108, 6, 194, 15, 95, 95, 102, 105, 114, 115, 116, 108, 105, 110, 101, 110, 111, 95, 95, 4, 192, 0, 1001, 6, 195, 7, 95, 95, 100, 111, 99, 95, 95, 9, 59, 95, 102, 114, 111, 122, 101, 110, 95, 105, 109, 112, 111, 114, 116, 108, 105, 98, 95, 101, 120, 116, 101, 114, 110, 97, 108, 46, 95, 76, 111, 97, 100, 101, 114, 66, 97, 115, 105, 99, 115, 46, 95, 95, 100, 111, 99, 95, 95, 58, 115, 116, 114, 35, 111, 112, 97, 113, 117, 101, 6, 196, 10, 105, 115, 95, 112, 97, 99, 107, 97, 103, 101, 9, 58, 95, 102, 114, 111, 122, 101, 110, 95, 105, 109, 112, 111, 114, 116, 108, 105, 98, 95, 101, 120, 116, 101, 114, 110, 97, 108, 46, 95, 76, 111, 97, 100, 101, 114, 66, 97, 115, 105, 99, 115, 46, 105, 115, 95, 112, 97, 99, 107, 97, 103, 101, 35, 111, 112, 97, 113, 117, 101, 6, 197, 13, 99, 114, 101, 97, 116, 101, 95, 109, 111, 100, 117, 108, 101, 9, 61, 95, 102, 114, 111, 122, 101, 110, 95, 105, 109, 112, 111, 114, 116, 108, 105, 98, 95, 101, 120, 116, 101, 114, 110, 97, 108, 46, 95, 76, 111, 97, 100, 101, 114, 66, 97, 115, 105, 99, 115, 46, 99, 114, 101, 97, 116, 101, 95, 109, 111, 100, 117, 108, 101, 35, 111, 112, 97, 113, 117, 101, 6, 198, 11, 101, 120, 101, 99, 95, 109, 111, 100, 117, 108, 101, 9, 59, 95, 102, 114, 111, 122, 101, 110, 95, 105, 109, 112, 111, 114, 116, 108, 105, 98, 95, 101, 120, 116, 101, 114, 110, 97, 108, 46, 95, 76, 111, 97, 100, 101, 114, 66, 97, 115, 105, 99, 115, 46, 101, 120, 101, 99, 95, 109, 111, 100, 117, 108, 101, 35, 111, 112, 97, 113, 117, 101, 6, 199, 11, 108, 111, 97, 100, 95, 109, 111, 100, 117, 108, 101, 9, 59, 95, 102, 114, 111, 122, 101, 110, 95, 105, 109, 112, 111, 114, 116, 108, 105, 98, 95, 101, 120, 116, 101, 114, 110, 97, 108, 46, 95, 76, 111, 97, 100, 101, 114, 66, 97, 115, 105, 99, 115, 46, 108, 111, 97, 100, 95, 109, 111, 100, 117, 108, 101, 35, 111, 112, 97, 113, 117, 101, 6, 200, 21, 95, 95, 115, 116, 97, 116, 105, 99, 95, 97, 116, 116, 114, 105, 98, 117, 116, 101, 115, 95, 95, 4, 0, 0, 17, 6, 202, 8, 95, 95, 100, 105, 99, 116, 95, 95, 4, 0, 0, 18, 6, 204, 11, 95, 95, 119, 101, 97, 107, 114, 101, 102, 95, 95, 4, 0, 0, 19]⟩ 0), (.bool true), (.bool true), (.str "" 205), (.int 21 0), (.str ⟨#[6, 212, 10, 95, 95, 109, 111, 100, 117, 108, 101, 95, 95, 6, 208, 26, 95, 102, 114, 111, 122, 101, 110, 95, 105, 109, 112, 111, 114, 116, 108, 105, 98, 95, 101, 120, 116, 101, 114, 110, 97, 108, 6, 213, 15, 95, 95, 102, 105, 114, 115, 116, 108, 105, 110, 101, 110, 111, 95, 95, 4, 209, 0, 1176, 6, 214, 7, 95, 95, 100, 111, 99, 95, 95, 9, 56, 95, 102, 114, 111, 122, 101, 110, 95, 105, 109, 112, 111, 114, 116, 108, 105, 98, 95, 101, 120, 116, 101, 114, 110, 97, 108, 46, 70, 105, 108, 101, 76, 111, 97, 100, 101, 114, 46, 95, 95, 100, 111, 99, 95, 95, 58, 115, 116, 114, 35, 111, 112, 97, 113, 117, 101, 6, 215, 8, 95, 95, 105, 110, 105, 116, 95, 95, 9, 53, 95, 102, 114, 111, 122, 101, 110, 95, 105, 109, 112, 111, 114, 116, 108, 105, 98, 95, 101, 120, 116, 101, 114, 110, 97, 108, 46, 70, 105, 108, 101, 76, 111, 97, 100, 101, 114, 46, 95, 95, 105, 110, 105, 116, 95, 95, 35, 111, 112, 97, 113, 117, 101, 6, 216, 6, 95, 95, 101, 113, 95, 95, 9, 51, 95, 102, 114, 111, 122, 101, 110, 95, 105, 109, 112, 111, 114, 116, 108, 105, 98, 95, 101, 120, 116, 101, 114, 110, 97, 108, 46, 70, 105, 108, 101, 76, 111, 97, 100, 101, 114, 46, 95, 95, 101, 113, 95, 95, 35, 111, 112, 97, 113, 117, 101, 6, 217, 8, 95, 95, 104, 97, 115, 104, 95, 95, 9, 53, 95, 102, 114, 111, 122, 101, 110, 95, 105, 109, 112, 111, 114, 116, 108, 105, 98, 95, 101, 120, 116, 101, 114, 110, 97, 108, 46, 70, 105, 108, 101, 76, 111, 97, 100, 101, 114, 46, 95, 95, 104, 97, 115, 104, 95, 95, 35, 111, 112, 97, 113, 117, 101, 6, 218, 11, 108, 111, 97, 100, 95, 109, 111, 100, 117, 108, 101, 9, 56, 95, 102, 114, 111, 122, 101, 110, 95, 105, 109, 112, 111, 114, 116, 108, 105, 98, 95, 101, 120, 116, 101, 114, 110, 97, 108, 46, 70, 105, 108, 101, 76, 111, 97, 100, 101, 114, 46, 108, 111, 97, 100, 95, 109, 111, 100, 117, 108, 101, 35, 111, 112, 97, 113, 117, 101, 6, 219, 12, 103, 101, 116, 95, 102, 105, 108, 101, 110, 97, 109, 101, 9, 57, 95, 102, 114, 111, 122, 101, 110, 95, 105, 109, 112, 111, 114, 116, 108, 105, 98, 95, 101, 120, 116, 101, 114, 110, 97, 108, 46, 70, 105, 108, 101, 76, 111, 97, 100, 101, 114, 46, 103, 101, 116, 95, 102, 105, 108, 101, 110, 97, 109, 101, 35, 111, 112, 97, 113, 117, 101, 6, 220, 8, 103, 101, 116, 95, 100, 97, 116, 97, 9, 53, 95, 102, 114, 111, 122, 101, 110, 95, 105, 109, 112, 111, 114, 116, 108, 105, 98, 95, 101, 120, 116, 101, 114, 110, 97, 108, 46, 70, 105, 108, 101, 76, 111, 97, 100, 101, 114, 46, 103, 101, 116, 95, 100, 97, 116, 97, 35, 111, 112, 97, 113, 117, 101, 6, 221, 19, 103, 101, 116, 95, 114, 101, 115, 111, 117, 114, 99, 101, 95, 114, 101, 97, 100, 101, 114, 9, 64, 95, 102, 114, 111, 122, 101, 110, 95, 105, 109, 112, 111, 114, 116, 108, 105, 98, 95, 101, 120, 116, 101, 114, 110, 97, 108, 46, 70, 105, 108, 101, 76, 111, 97, 100, 101, 114, 46, 103, 101, 116, 95, 114, 101, 115, 111, 117, 114, 99, 101, 95, 114, 101, 97, 100, 101, 114, 35, 111, 112, 97, 113, 117, 101, 6, 222, 21, 95, 95, 115, 116, 97, 116, 105, 99, 95, 97, 116, 116, 114, 105, 98, 117, 116, 101, 115, 95, 95, 4, 0, 0, 23, 6, 224, 8, 95, 95, 100, 105, 99, 116, 95, 95, 4, 0, 0, 24, 6, 226, 11, 95, 95, 119, 101, 97, 107, 114, 101, 102, 95, 95, 4, 0, 0, 25]⟩ 0), (.bool true), (.bool true), (.str "" 227), (.int 26 0), (.str ⟨#[6, 233, 10, 95, 95, 109, 111, 100, 117, 108, 101, 95, 95, 6, 229, 26, 95, 102, 114, 111, 122, 101, 110, 95, 105, 109, 112, 111, 114, 116, 108, 105, 98, 95, 101, 120, 116, 101, 114, 110, 97, 108, 6, 234, 15, 95, 95, 102, 105, 114, 115, 116, 108, 105, 110, 101, 110, 111, 95, 95, 4, 230, 0, 1296, 6, 235, 7, 95, 95, 100, 111, 99, 95, 95, 9, 65, 95, 102, 114, 111, 122, 101, 110, 95, 105, 109, 112, 111, 114, 116, 108, 105, 98, 95, 101, 120, 116, 101, 114, 110, 97, 108, 46, 69, 120, 116, 101, 110, 115, 105, 111, 110, 70, 105, 108, 101, 76, 111, 97, 100, 101, 114, 46, 95, 95, 100, 111, 99, 95, 95, 58, 115, 116, 114, 35, 111, 112, 97, 113, 117, 101, 6, 236, 8, 95, 95, 105, 110, 105, 116, 95, 95, 9, 62, 95, 102, 114, 111, 122, 101, 110, 95, 105, 109, 112, 111, 114, 116, 108, 105, 98, 95, 101, 120, 116, 101, 114, 110, 97, 108, 46, 69, 120, 116, 101, 110, 115, 105, 111, 110, 70, 105, 108, 101, 76, 111, 97, 100, 101, 114, 46, 95, 95, 105, 110, 105, 116, 95, 95, 35, 111, 112, 97, 113, 117, 101, 6, 237, 6, 95, 95, 101, 113, 95, 95, 9, 60, 95, 102, 114, 111, 122, 101, 110, 95, 105, 109, 112, 111, 114, 116, 108, 105, 98, 95, 101, 120, 116, 101, 114, 110, 97, 108, 46, 69, 120, 116, 101, 110, 115, 105, 111, 110, 70, 105, 108, 101, 76, 111, 97, 100, 101, 114, 46, 95, 95, 101, 113, 95, 95, 35, 111, 112, 97, 113, 117, 101, 6, 238, 8, 95, 95, 104, 97, 115, 104, 95, 95, 9, 62, 95, 102, 114, 111, 122, 101, 110, 95, 105, 109, 112, 111, 114, 116, 108, 105, 98, 95, 101, 120, 116, 101, 114, 110, 97, 108, 46, 69, 120, 116, 101, 110, 115, 105, 111, 110, 70, 105, 108, 101, 76, 111, 97, 100, 101, 114, 46, 95, 95, 104, 97, 115, 104, 95, 95, 35, 111, 112, 97, 113, 117, 101, 6, 239, 13, 99, 114, 101, 97, 116, 101, 95, 109, 111, 100, 117, 108, 101, 9, 67, 95, 102, 114, 111, 122, 101, 110, 95, 105, 109, 112, 111, 114, 116, 108, 105, 98, 95, 101, 120, 116, 101, 114, 110, 97, 108, 46, 69, 120, 116, 101, 110, 115, 105, 111, 110, 70, 105, 108, 101, 76, 111, 97, 100, 101, 114, 46, 99, 114, 101, 97, 116, 101, 95, 109, 111, 100, 117, 108, 101, 35, 111, 112, 97, 113, 117, 101, 6, 240, 11, 101, 120, 101, 99, 95, 109, 111, 100, 117, 108, 101, 9, 65, 95, 102, 114, 111, 122, 101, 110, 95, 105, 109, 112, 111, 114, 116, 108, 105, 98, 95, 101, 120, 116, 101, 114, 110, 97, 108, 46, 69, 120, 116, 101, 110, 115, 105, 111, 110, 70, 105, 108, 101, 76, 111, 97, 100, 101, 114, 46, 101, 120, 101, 99, 95, 109, 111, 100, 117, 108, 101, 35, 111, 112, 97, 113, 117, 101, 6, 241, 10, 105, 115, 95, 112, 97, 99, 107, 97, 103, 101, 9, 64, 95, 102, 114, 111, 122, 101, 110, 95, 105, 109, 112, 111, 114, 116, 108, 105, 98, 95, 101, 120, 116, 101, 114, 110, 97, 108, 46, 69, 120, 116, 101, 110, 115, 105, 111, 110, 70, 105, 108, 101, 76, 111, 97, 100, 101, 114, 46, 105, 115, 95, 112, 97, 99, 107, 97, 103, 101, 35, 111, 112, 97, 113, 117, 101, 6, 242, 8, 103, 101, 116, 95, 99, 111, 100, 101, 9, 62, 95, 102, 114, 111, 122, 101, 110, 95, 105, 109, 112, 111, 114, 116, 108, 105, 98, 95, 101, 120, 116, 101, 114, 110, 97, 108, 46, 69, 120, 116, 101, 110, 115, 105, 111, 110, 70, 105, 108, 101, 76, 111, 97, 100, 101, 114, 46, 103, 101, 116, 95, 99, 111, 100, 101, 35, 111, 112, 97, 113, 117, 101, 6, 243, 10, 103, 101, 116, 95, 115, 111, 117, 114, 99, 101, 9, 64, 95, 102, 114, 111, 122, 101, 110, 95, 105, 109, 112, 111, 114, 116, 108, 105, 98, 95, 101, 120, 116, 101, 114, 110, 97, 108, 46, 69, 120, 116, 101, 110, 115, 105, 111, 110, 70, 105, 108, 101, 76, 111, 97, 100, 101, 114, 46, 103, 101, 116, 95, 115, 111, 117, 114, 99, 101, 35, 111, 112, 97, 113, 117, 101, 6, 244, 12, 103, 101, 116, 95, 102, 105, 108, 101, 110, 97, 109, 101, 9, 66, 95, 102, 114, 111, 122, 101, 110, 95, 105, 109, 112, 111, 114, 116, 108, 105, 98, 95, 101, 120, 116, 101, 114, 110, 97, 108, 46, 69, 120, 116, 101, 110, 115, 105, 111, 110, 70, 105, 108, 101, 76, 111, 97, 100, 101, 114, 46, 103, 101, 116, 95, 102, 105, 108, 101, 110, 97, 109, 101, 35, 111, 112, 97, 113, 117, 101, 6, 245, 21, 95, 95, 115, 116, 97, 116, 105, 99, 95, 97, 116, 116, 114, 105, 98, 117, 116, 101, 115, 95, 95, 4, 0, 0, 28]⟩ 0), (.bool true), (.bool true), (.str "" 246), (.int 32 0), (.str ⟨#[6, 267, 10, 95, 95, 109, 111, 100, 117, 108, 101, 95, 95, 6, 257, 17, 95, 102, 114, 111, 122, 101, 110, 95, 105, 109, 112, 111, 114, 116, 108, 105, 98, 6, 268, 15, 95, 95, 102, 105, 114, 115, 116, 108, 105, 110, 101, 110, 111, 95, 95, 4, 258, 0, 562, 6, 269, 7, 95, 95, 100, 111, 99, 95, 95, 9, 47, 95, 102, 114, 111, 122, 101, 110, 95, 105, 109, 112, 111, 114, 116, 108, 105, 98, 46, 77, 111, 100, 117, 108, 101, 83, 112, 101, 99, 46, 95, 95, 100, 111, 99, 95, 95, 58, 115, 116, 114, 35, 111, 112, 97, 113, 117, 101, 6, 270, 8, 95, 95, 105, 110, 105, 116, 95, 95, 9, 44, 95, 102, 114, 111, 122, 101, 110, 95, 105, 109, 112, 111, 114, 116, 108, 105, 98, 46, 77, 111, 100, 117, 108, 101, 83, 112, 101, 99, 46, 95, 95, 105, 110, 105, 116, 95, 95, 35, 111, 112, 97, 113, 117, 101, 6, 271, 8, 95, 95, 114, 101, 112, 114, 95, 95, 9, 44, 95, 102, 114, 111, 122, 101, 110, 95, 105, 109, 112, 111, 114, 116, 108, 105, 98, 46, 77, 111, 100, 117, 108, 101, 83, 112, 101, 99, 46, 95, 95, 114, 101, 112, 114, 95, 95, 35, 111, 112, 97, 113, 117, 101, 6, 272, 6, 95, 95, 101, 113, 95, 95, 9, 42, 95, 102, 114, 111, 122, 101, 110, 95, 105, 109, 112, 111, 114, 116, 108, 105, 98, 46, 77, 111, 100, 117, 108, 101, 83, 112, 101, 99, 46, 95, 95, 101, 113, 95, 95, 35, 111, 112, 97, 113, 117, 101, 6, 273, 6, 99, 97, 99, 104, 101, 100, 9, 42, 95, 102, 114, 111, 122, 101, 110, 95, 105, 109, 112, 111, 114, 116, 108, 105, 98, 46, 77, 111, 100, 117, 108, 101, 83, 112, 101, 99, 46, 99, 97, 99, 104, 101, 100, 35, 111, 112, 97, 113, 117, 101, 6, 274, 6, 112, 97, 114, 101, 110, 116, 9, 42, 95, 102, 114, 111, 122, 101, 110, 95, 105, 109, 112, 111, 114, 116, 108, 105, 98, 46, 77, 111, 100, 117, 108, 101, 83, 112, 101, 99, 46, 112, 97, 114, 101, 110, 116, 35, 111, 112, 97, 113, 117, 101, 6, 275, 12, 104, 97, 115, 95, 108, 111, 99, 97, 116, 105, 111, 110, 9, 48, 95, 102, 114, 111, 122, 101, 110, 95, 105, 109, 112, 111, 114, 116, 108, 105, 98, 46, 77, 111, 100, 117, 108, 101, 83, 112, 101, 99, 46, 104, 97, 115, 95, 108, 111, 99, 97, 116, 105, 111, 110, 35, 111, 112, 97, 113, 117, 101, 6, 276, 21, 95, 95, 115, 116, 97, 116, 105, 99, 95, 97, 116, 116, 114, 105, 98, 117, 116, 101, 115, 95, 95, 4, 0, 0, 34, 6, 278, 8, 95, 95, 100, 105, 99, 116, 95, 95, 4, 0, 0, 35, 6, 280, 11, 95, 95, 119, 101, 97, 107, 114, 101, 102, 95, 95, 4, 0, 0, 36, 6, 281, 8, 95, 95, 104, 97, 115, 104, 95, 95, 0]⟩ 0), (.bool true), (.bool true), (.str "" 282)] 3, #[]⟩
def ib_21 (P : Params) : Obj := ⟨(.type "dict"), none, .dict #[dE P "__module__" 212 (.str "_frozen_importlib_external" 208),
    dE P "__firstlineno__" 213 (.int 1176 209),
    dE P "__doc__" 214 (.builtin "_frozen_importlib_external.FileLoader.__doc__:str#opaque"),
    dE P "__init__" 215 (.builtin "_frozen_importlib_external.FileLoader.__init__#opaque"),
    dE P "__eq__" 216 (.builtin "_frozen_importlib_external.FileLoader.__eq__#opaque"),
    dE P "__hash__" 217 (.builtin "_frozen_importlib_external.FileLoader.__hash__#opaque"),
    dE P "load_module" 218 (.builtin "_frozen_importlib_external.FileLoader.load_module#opaque"),
    dE P "get_filename" 219 (.builtin "_frozen_importlib_external.FileLoader.get_filename#opaque"),
    dE P "get_data" 220 (.builtin "_frozen_importlib_external.FileLoader.get_data#opaque"),
    dE P "get_resource_reader" 221 (.builtin "_frozen_importlib_external.FileLoader.get_resource_reader#opaque"),
    dE P "__static_attributes__" 222 (.ref 23),
    dE P "__dict__" 224 (.ref 24),
    dE P "__weakref__" 226 (.ref 25)] 13, #[]⟩
def ib_22 (P : Params) : Obj := ⟨(.type "type"), none, .cls { name := "FileLoader", bases := [(.type "object")], mro := [(.ref 22), (.type "object")], ns := 21, qualname := "FileLoader", hasDict := true, slotNames := [], subclasses := [(.ref 27)], abstract := false, collection := none, hasDel := false }, #[]⟩
def ib_23 (P : Params) : Obj := ⟨(.type "tuple"), none, .seq #[(.str "name" 210), (.str "path" 211)] 0, #[]⟩
def ib_24 (P : Params) : Obj := ⟨(.type "getset_descriptor"), none, .fields #[(.str "__dict__" 223), (.ref 22), (.builtin "function.__dict__"), (.builtin "function.__dict__#set")], #[]⟩
def ib_25 (P : Params) : Obj := ⟨(.type "getset_descriptor"), none, .fields #[(.str "__weakref__" 225), (.ref 22), (.builtin "ExceptionGroup.__weakref__"), .none], #[]⟩
def ib_26 (P : Params) : Obj := ⟨(.type "dict"), none, .dict #[dE P "__module__" 233 (.str "_frozen_importlib_external" 229),
    dE P "__firstlineno__" 234 (.int 1296 230),
    dE P "__doc__" 235 (.builtin "_frozen_importlib_external.ExtensionFileLoader.__doc__:str#opaque"),
    dE P "__init__" 236 (.builtin "_frozen_importlib_external.ExtensionFileLoader.__init__#opaque"),
    dE P "__eq__" 237 (.builtin "_frozen_importlib_external.ExtensionFileLoader.__eq__#opaque"),
    dE P "__hash__" 238 (.builtin "_frozen_importlib_external.ExtensionFileLoader.__hash__#opaque"),
    dE P "create_module" 239 (.builtin "_frozen_importlib_external.ExtensionFileLoader.create_module#opaque"),
    dE P "exec_module" 240 (.builtin "_frozen_importlib_external.ExtensionFileLoader.exec_module#opaque"),
    dE P "is_package" 241 (.builtin "_frozen_importlib_external.ExtensionFileLoader.is_package#opaque"),
    dE P "get_code" 242 (.builtin "_frozen_importlib_external.ExtensionFileLoader.get_code#opaque"),
    dE P "get_source" 243 (.builtin "_frozen_importlib_external.ExtensionFileLoader.get_source#opaque"),
    dE P "get_filename" 244 (.builtin "_frozen_importlib_external.ExtensionFileLoader.get_filename#opaque"),
    dE P "__static_attributes__" 245 (.ref 28)] 13, #[]⟩
def ib_27 (P : Params) : Obj := ⟨(.type "type"), none, .cls { name := "ExtensionFileLoader", bases := [(.ref 22), (.ref 16)], mro := [(.ref 27), (.ref 22), (.ref 16), (.type "object")], ns := 26, qualname := "ExtensionFileLoader", hasDict := true, slotNames := [], subclasses := [], abstract := false, collection := none, hasDel := false }, #[]⟩
def ib_28 (P : Params) : Obj := ⟨(.type "tuple"), none, .seq #[(.str "name" 231), (.str "path" 232)] 0, #[]⟩
def ib_29 (P : Params) : Obj := ⟨(.ref 27), some 14, .plain, #[]⟩
def ib_30 (P : Params) : Obj := ⟨(.type "list"), none, .seq #[] 0, #[]⟩
def ib_31 (P : Params) : Obj := ⟨(.type "dict"), none, .dict #[dE P "name" 248 (.str "math" 247),
    dE P "loader" 249 (.ref 29),
    dE P "origin" 250 (.str ⟨#[47, 110, 105, 120, 47, 115, 116, 111, 114, 101, 47, 119, 106, 49, 102, 53, 54, 113, 107, 121, 52, 112, 109, 106, 99, 55, 108, 48, 114, 54, 98, 54, 108, 55, 119, 104, 110, 110, 119, 55, 104, 112, 54, 45, 112, 121, 116, 104, 111, 110, 51, 45, 51, 46, 49, 51, 46, 49, 53, 47, 108, 105, 98, 47, 112, 121, 116, 104, 111, 110, 51, 46, 49, 51, 47, 108, 105, 98, 45, 100, 121, 110, 108, 111, 97, 100, 47, 109, 97, 116, 104, 46, 99, 112, 121, 116, 104, 111, 110, 45, 51, 49, 51, 45, 120, 56, 54, 95, 54, 52, 45, 108, 105, 110, 117, 120, 45, 103, 110, 117, 46, 115, 111]⟩ 186),
    dE P "loader_state" 251 .none,
    dE P "submodule_search_locations" 252 .none,
    dE P "_uninitialized_submodules" 253 (.ref 30),
    dE P "_set_fileattr" 254 (.bool true),
    dE P "_cached" 255 .none,
    dE P "_initializing" 283 (.bool false)] 9, #[]⟩
def ib_32 (P : Params) : Obj := ⟨(.type "dict"), none, .dict #[dE P "__module__" 267 (.str "_frozen_importlib" 257),
    dE P "__firstlineno__" 268 (.int 562 258),
    dE P "__doc__" 269 (.builtin "_frozen_importlib.ModuleSpec.__doc__:str#opaque"),
    dE P "__init__" 270 (.builtin "_frozen_importlib.ModuleSpec.__init__#opaque"),
    dE P "__repr__" 271 (.builtin "_frozen_importlib.ModuleSpec.__repr__#opaque"),
    dE P "__eq__" 272 (.builtin "_frozen_importlib.ModuleSpec.__eq__#opaque"),
    dE P "cached" 273 (.builtin "_frozen_importlib.ModuleSpec.cached#opaque"),
    dE P "parent" 274 (.builtin "_frozen_importlib.ModuleSpec.parent#opaque"),
    dE P "has_location" 275 (.builtin "_frozen_importlib.ModuleSpec.has_location#opaque"),
    dE P "__static_attributes__" 276 (.ref 34),
    dE P "__dict__" 278 (.ref 35),
    dE P "__weakref__" 280 (.ref 36),
    dE P "__hash__" 281 .none] 13, #[]⟩
def ib_33 (P : Params) : Obj := ⟨(.type "type"), none, .cls { name := "ModuleSpec", bases := [(.type "object")], mro := [(.ref 33), (.type "object")], ns := 32, qualname := "ModuleSpec", hasDict := true, slotNames := [], subclasses := [], abstract := false, collection := none, hasDel := false }, #[]⟩
def ib_34 (P : Params) : Obj := ⟨(.type "tuple"), none, .seq #[(.str "_cached" 259), (.str "_set_fileattr" 260), (.str "_uninitialized_submodules" 261), (.str "loader" 262), (.str "loader_state" 263), (.str "name" 264), (.str "origin" 265), (.str "submodule_search_locations" 266)] 0, #[]⟩
def ib_35 (P : Params) : Obj := ⟨(.type "getset_descriptor"), none, .fields #[(.str "__dict__" 277), (.ref 33), (.builtin "function.__dict__"), (.builtin "function.__dict__#set")], #[]⟩
def ib_36 (P : Params) : Obj := ⟨(.type "getset_descriptor"), none, .fields #[(.str "__weakref__" 279), (.ref 33), (.builtin "ExceptionGroup.__weakref__"), .none], #[]⟩
def ib_37 (P : Params) : Obj := ⟨(.ref 33), some 31, .plain, #[]⟩
def ib_38 (P : Params) : Obj := ⟨.none, none, .seq #[(.int 12 0), (.str ⟨#[6, 287, 8, 95, 95, 110, 97, 109, 101, 95, 95, 6, 286, 4, 109, 97, 116, 104, 6, 288, 7, 95, 95, 100, 111, 99, 95, 95, 9, 23, 109, 97, 116, 104, 46, 95, 95, 100, 111, 99, 95, 95, 58, 115, 116, 114, 35, 111, 112, 97, 113, 117, 101, 6, 290, 11, 95, 95, 112, 97, 99, 107, 97, 103, 101, 95, 95, 6, 289, 0, 6, 291, 10, 95, 95, 108, 111, 97, 100, 101, 114, 95, 95, 4, 0, 0, 29, 6, 292, 8, 95, 95, 115, 112, 101, 99, 95, 95, 4, 0, 0, 37, 6, 293, 4, 97, 99, 111, 115, 9, 9, 109, 97, 116, 104, 46, 97, 99, 111, 115, 6, 294, 5, 97, 99, 111, 115, 104, 9, 10, 109, 97, 116, 104, 46, 97, 99, 111, 115, 104, 6, 295, 4, 97, 115, 105, 110, 9, 9, 109, 97, 116, 104, 46, 97, 115, 105, 110, 6, 296, 5, 97, 115, 105, 110, 104, 9, 10, 109, 97, 116, 104, 46, 97, 115, 105, 110, 104, 6, 297, 4, 97, 116, 97, 110, 9, 9, 109, 97, 116, 104, 46, 97, 116, 97, 110, 6, 298, 5, 97, 116, 97, 110, 50, 9, 10, 109, 97, 116, 104, 46, 97, 116, 97, 110, 50, 6, 299, 5, 97, 116, 97, 110, 104, 9, 10, 109, 97, 116, 104, 46, 97, 116, 97, 110, 104, 6, 300, 4, 99, 98, 114, 116, 9, 9, 109, 97, 116, 104, 46, 99, 98, 114, 116, 6, 301, 4, 99, 101, 105, 108, 9, 9, 109, 97, 116, 104, 46, 99, 101, 105, 108, 6, 302, 8, 99, 111, 112, 121, 115, 105, 103, 110, 9, 13, 109, 97, 116, 104, 46, 99, 111, 112, 121, 115, 105, 103, 110, 6, 303, 3, 99, 111, 115, 9, 8, 109, 97, 116, 104, 46, 99, 111, 115, 6, 304, 4, 99, 111, 115, 104, 9, 9, 109, 97, 116, 104, 46, 99, 111, 115, 104, 6, 305, 7, 100, 101, 103, 114, 101, 101, 115, 9, 12, 109, 97, 116, 104, 46, 100, 101, 103, 114, 101, 101, 115, 6, 306, 4, 100, 105, 115, 116, 9, 9, 109, 97, 116, 104, 46, 100, 105, 115, 116, 6, 307, 3, 101, 114, 102, 9, 8, 109, 97, 116, 104, 46, 101, 114, 102, 6, 308, 4, 101, 114, 102, 99, 9, 9, 109, 97, 116, 104, 46, 101, 114, 102, 99, 6, 309, 3, 101, 120, 112, 9, 8, 109, 97, 116, 104, 46, 101, 120, 112, 6, 310, 4, 101, 120, 112, 50, 9, 9, 109, 97, 116, 104, 46, 101, 120, 112, 50, 6, 311, 5, 101, 120, 112, 109, 49, 9, 10, 109, 97, 116, 104, 46, 101, 120, 112, 109, 49, 6, 312, 4, 102, 97, 98, 115, 9, 9, 109, 97, 116, 104, 46, 102, 97, 98, 115, 6, 313, 9, 102, 97, 99, 116, 111, 114, 105, 97, 108, 9, 14, 109, 97, 116, 104, 46, 102, 97, 99, 116, 111, 114, 105, 97, 108, 6, 314, 5, 102, 108, 111, 111, 114, 9, 10, 109, 97, 116, 104, 46, 102, 108, 111, 111, 114, 6, 315, 3, 102, 109, 97, 9, 8, 109, 97, 116, 104, 46, 102, 109, 97, 6, 316, 4, 102, 109, 111, 100, 9, 9, 109, 97, 116, 104, 46, 102, 109, 111, 100, 6, 317, 5, 102, 114, 101, 120, 112, 9, 10, 109, 97, 116, 104, 46, 102, 114, 101, 120, 112, 6, 318, 4, 102, 115, 117, 109, 9, 9, 109, 97, 116, 104, 46, 102, 115, 117, 109, 6, 319, 5, 103, 97, 109, 109, 97, 9, 10, 109, 97, 116, 104, 46, 103, 97, 109, 109, 97, 6, 320, 3, 103, 99, 100, 9, 8, 109, 97, 116, 104, 46, 103, 99, 100, 6, 321, 5, 104, 121, 112, 111, 116, 9, 10, 109, 97, 116, 104, 46, 104, 121, 112, 111, 116, 6, 322, 7, 105, 115, 99, 108, 111, 115, 101, 9, 12, 109, 97, 116, 104, 46, 105, 115, 99, 108, 111, 115, 101, 6, 323, 8, 105, 115, 102, 105, 110, 105, 116, 101, 9, 13, 109, 97, 116, 104, 46, 105, 115, 102, 105, 110, 105, 116, 101, 6, 324, 5, 105, 115, 105, 110, 102, 9, 10, 109, 97, 116, 104, 46, 105, 115, 105, 110, 102, 6, 325, 5, 105, 115, 110, 97, 110, 9, 10, 109, 97, 116, 104, 46, 105, 115, 110, 97, 110, 6, 326, 5, 105, 115, 113, 114, 116, 9, 10, 109, 97, 116, 104, 46, 105, 115, 113, 114, 116, 6, 327, 3, 108, 99, 109, 9, 8, 109, 97, 116, 104, 46, 108, 99, 109, 6, 328, 5, 108, 100, 101, 120, 112, 9, 10, 109, 97, 116, 104, 46, 108, 100, 101, 120, 112, 6, 329, 6, 108, 103, 97, 109, 109, 97, 9, 11, 109, 97, 116, 104, 46, 108, 103, 97, 109, 109, 97, 6, 330, 3, 108, 111, 103, 9, 8, 109, 97, 116, 104, 46, 108, 111, 103, 6, 331, 5, 108, 111, 103, 49, 112, 9, 10, 109, 97, 116, 104, 46, 108, 111, 103, 49, 112, 6, 332, 5, 108, 111, 103, 49, 48, 9, 10, 109, 97, 116, 104, 46, 108, 111, 103, 49, 48, 6, 333, 4, 108, 111, 103, 50, 9, 9, 109, 97, 116, 104, 46, 108, 111, 103, 50, 6, 334, 4, 109, 111, 100, 102, 9, 9, 109, 97, 116, 104, 46, 109, 111, 100, 102, 6, 335, 3, 112, 111, 119, 9, 8, 109, 97, 116, 104, 46, 112, 111, 119, 6, 336, 7, 114, 97, 100, 105, 97, 110, 115, 9, 12, 109, 97, 116, 104, 46, 114, 97, 100, 105, 97, 110, 115, 6, 337, 9, 114, 101, 109, 97, 105, 110, 100, 101, 114, 9, 14, 109, 97, 116, 104, 46, 114, 101, 109, 97, 105, 110, 100, 101, 114, 6, 338, 3, 115, 105, 110, 9, 8, 109, 97, 116, 104, 46, 115, 105, 110, 6, 339, 4, 115, 105, 110, 104, 9, 9, 109, 97, 116, 104, 46, 115, 105, 110, 104, 6, 340, 4, 115, 113, 114, 116, 9, 9, 109, 97, 116, 104, 46, 115, 113, 114, 116, 6, 341, 3, 116, 97, 110, 9, 8, 109, 97, 116, 104, 46, 116, 97, 110, 6, 342, 4, 116, 97, 110, 104, 9, 9, 109, 97, 116, 104, 46, 116, 97, 110, 104, 6, 343, 7, 115, 117, 109, 112, 114, 111, 100, 9, 12, 109, 97, 116, 104, 46, 115, 117, 109, 112, 114, 111, 100, 6, 344, 5, 116, 114, 117, 110, 99, 9, 10, 109, 97, 116, 104, 46, 116, 114, 117, 110, 99, 6, 345, 4, 112, 114, 111, 100, 9, 9, 109, 97, 116, 104, 46, 112, 114, 111, 100, 6, 346, 4, 112, 101, 114, 109, 9, 9, 109, 97, 116, 104, 46, 112, 101, 114, 109, 6, 347, 4, 99, 111, 109, 98, 9, 9, 109, 97, 116, 104, 46, 99, 111, 109, 98, 6, 348, 9, 110, 101, 120, 116, 97, 102, 116, 101, 114, 9, 14, 109, 97, 116, 104, 46, 110, 101, 120, 116, 97, 102, 116, 101, 114, 6, 349, 3, 117, 108, 112, 9, 8, 109, 97, 116, 104, 46, 117, 108, 112, 6, 350, 8, 95, 95, 102, 105, 108, 101, 95, 95, 6, 186, 123, 47, 110, 105, 120, 47, 115, 116, 111, 114, 101, 47, 119, 106, 49, 102, 53, 54, 113, 107, 121, 52, 112, 109, 106, 99, 55, 108, 48, 114, 54, 98, 54, 108, 55, 119, 104, 110, 110, 119, 55, 104, 112, 54, 45, 112, 121, 116, 104, 111, 110, 51, 45, 51, 46, 49, 51, 46, 49, 53, 47, 108, 105, 98, 47, 112, 121, 116, 104, 111, 110, 51, 46, 49, 51, 47, 108, 105, 98, 45, 100, 121, 110, 108, 111, 97, 100, 47, 109, 97, 116, 104, 46, 99, 112, 121, 116, 104, 111, 110, 45, 51, 49, 51, 45, 120, 56, 54, 95, 54, 52, 45, 108, 105, 110, 117, 120, 45, 103, 110, 117, 46, 115, 111, 6, 352, 2, 112, 105, 5, 351, 4614256656552045848, 6, 354, 1, 101, 5, 353, 4613303445314885481, 6, 356, 3, 116, 97, 117, 5, 355, 4618760256179416344, 6, 358, 3, 105, 110, 102, 5, 357, 9218868437227405312, 6, 360, 3, 110, 97, 110, 5, 359, 9221120237041090560]⟩ 0), (.bool true), (.bool false), (.str "math" 362)] 0, #[]⟩
def ib_heap (P : Params) : Heap := ⟨#[boot_o_0 P, ib_1 P, ib_2 P, ib_3 P, boot_o_4 P, boot_o_5 P, boot_o_6 P, boot_o_7 P, boot_o_8 P, boot_o_9 P, boot_o_10 P, ib_11 P, ib_12 P, ib_13 P, ib_14 P, ib_15 P, ib_16 P, ib_17 P, ib_18 P, ib_19 P, ib_20 P, ib_21 P, ib_22 P, ib_23 P, ib_24 P, ib_25 P, ib_26 P, ib_27 P, ib_28 P, ib_29 P, ib_30 P, ib_31 P, ib_32 P, ib_33 P, ib_34 P, ib_35 P, ib_36 P, ib_37 P, ib_38 P], { }⟩
def ib_toks : Nat := 370
/-! fenced: what other modules know of this one -/
def fb_12 (P : Params) : Obj := ⟨(.type "dict"), none, .dict #[dE P "__name__" 287 (.str "math" 286),
    dE P "__doc__" 288 (.builtin "off-the-table:math.__doc__:shared#opaque"),
    dE P "__package__" 290 (.str "" 289),
    dE P "__loader__" 291 (.builtin "off-the-table:math.__loader__:shared#opaque"),
    dE P "__spec__" 292 (.builtin "off-the-table:math.__spec__:shared#opaque"),
    dE P "acos" 293 (.builtin "off-the-table:math.acos:shared#opaque"),
    dE P "acosh" 294 (.builtin "off-the-table:math.acosh:shared#opaque"),
    dE P "asin" 295 (.builtin "off-the-table:math.asin:shared#opaque"),
    dE P "asinh" 296 (.builtin "off-the-table:math.asinh:shared#opaque"),
    dE P "atan" 297 (.builtin "off-the-table:math.atan:shared#opaque"),
    dE P "atan2" 298 (.builtin "off-the-table:math.atan2:shared#opaque"),
    dE P "atanh" 299 (.builtin "off-the-table:math.atanh:shared#opaque"),
    dE P "cbrt" 300 (.builtin "off-the-table:math.cbrt:shared#opaque"),
    dE P "ceil" 301 (.builtin "math.ceil"),
    dE P "copysign" 302 (.builtin "math.copysign"),
    dE P "cos" 303 (.builtin "off-the-table:math.cos:shared#opaque"),
    dE P "cosh" 304 (.builtin "off-the-table:math.cosh:shared#opaque"),
    dE P "degrees" 305 (.builtin "math.degrees"),
    dE P "dist" 306 (.builtin "math.dist"),
    dE P "erf" 307 (.builtin "off-the-table:math.erf:shared#opaque"),
    dE P "erfc" 308 (.builtin "off-the-table:math.erfc:shared#opaque"),
    dE P "exp" 309 (.builtin "off-the-table:math.exp:shared#opaque"),
    dE P "exp2" 310 (.builtin "off-the-table:math.exp2:shared#opaque"),
    dE P "expm1" 311 (.builtin "off-the-table:math.expm1:shared#opaque"),
    dE P "fabs" 312 (.builtin "math.fabs"),
    dE P "factorial" 313 (.builtin "math.factorial"),
    dE P "floor" 314 (.builtin "math.floor"),
    dE P "fma" 315 (.builtin "math.fma"),
    dE P "fmod" 316 (.builtin "math.fmod"),
    dE P "frexp" 317 (.builtin "math.frexp"),
    dE P "fsum" 318 (.builtin "math.fsum"),
    dE P "gamma" 319 (.builtin "off-the-table:math.gamma:shared#opaque"),
    dE P "gcd" 320 (.builtin "math.gcd"),
    dE P "hypot" 321 (.builtin "math.hypot"),
    dE P "isclose" 322 (.builtin "math.isclose"),
    dE P "isfinite" 323 (.builtin "math.isfinite"),
    dE P "isinf" 324 (.builtin "math.isinf"),
    dE P "isnan" 325 (.builtin "math.isnan"),
    dE P "isqrt" 326 (.builtin "math.isqrt"),
    dE P "lcm" 327 (.builtin "math.lcm"),
    dE P "ldexp" 328 (.builtin "math.ldexp"),
    dE P "lgamma" 329 (.builtin "off-the-table:math.lgamma:shared#opaque"),
    dE P "log" 330 (.builtin "off-the-table:math.log:shared#opaque"),
    dE P "log1p" 331 (.builtin "off-the-table:math.log1p:shared#opaque"),
    dE P "log10" 332 (.builtin "off-the-table:math.log10:shared#opaque"),
    dE P "log2" 333 (.builtin "off-the-table:math.log2:shared#opaque"),
    dE P "modf" 334 (.builtin "math.modf"),
    dE P "pow" 335 (.builtin "off-the-table:math.pow:shared#opaque"),
    dE P "radians" 336 (.builtin "math.radians"),
    dE P "remainder" 337 (.builtin "math.remainder"),
    dE P "sin" 338 (.builtin "off-the-table:math.sin:shared#opaque"),
    dE P "sinh" 339 (.builtin "off-the-table:math.sinh:shared#opaque"),
    dE P "sqrt" 340 (.builtin "math.sqrt"),
    dE P "tan" 341 (.builtin "off-the-table:math.tan:shared#opaque"),
    dE P "tanh" 342 (.builtin "off-the-table:math.tanh:shared#opaque"),
    dE P "sumprod" 343 (.builtin "math.sumprod"),
    dE P "trunc" 344 (.builtin "math.trunc"),
    dE P "prod" 345 (.builtin "math.prod"),
    dE P "perm" 346 (.builtin "math.perm"),
    dE P "comb" 347 (.builtin "math.comb"),
    dE P "nextafter" 348 (.builtin "math.nextafter"),
    dE P "ulp" 349 (.builtin "math.ulp"),
    dE P "__file__" 350 (.str ⟨#[47, 110, 105, 120, 47, 115, 116, 111, 114, 101, 47, 119, 106, 49, 102, 53, 54, 113, 107, 121, 52, 112, 109, 106, 99, 55, 108, 48, 114, 54, 98, 54, 108, 55, 119, 104, 110, 110, 119, 55, 104, 112, 54, 45, 112, 121, 116, 104, 111, 110, 51, 45, 51, 46, 49, 51, 46, 49, 53, 47, 108, 105, 98, 47, 112, 121, 116, 104, 111, 110, 51, 46, 49, 51, 47, 108, 105, 98, 45, 100, 121, 110, 108, 111, 97, 100, 47, 109, 97, 116, 104, 46, 99, 112, 121, 116, 104, 111, 110, 45, 51, 49, 51, 45, 120, 56, 54, 95, 54, 52, 45, 108, 105, 110, 117, 120, 45, 103, 110, 117, 46, 115, 111]⟩ 186),
    dE P "pi" 352 (.float 4614256656552045848 351),
    dE P "e" 354 (.float 4613303445314885481 353),
    dE P "tau" 356 (.float 4618760256179416344 355),
    dE P "inf" 358 (.float 9218868437227405312 357),
    dE P "nan" 360 (.float 9221120237041090560 359)] 68, #[]⟩
def fb_heap (P : Params) : Heap := ⟨#[boot_o_0 P, ib_1 P, ib_2 P, ib_3 P, boot_o_4 P, boot_o_5 P, boot_o_6 P, boot_o_7 P, boot_o_8 P, boot_o_9 P, boot_o_10 P, ib_11 P, fb_12 P, ib_13 P, ib_14 P, ib_15 P, ib_16 P, ib_17 P, ib_18 P, ib_19 P, ib_20 P, ib_21 P, ib_22 P, ib_23 P, ib_24 P, ib_25 P, ib_26 P, ib_27 P, ib_28 P, ib_29 P, ib_30 P, ib_31 P, ib_32 P, ib_33 P, ib_34 P, ib_35 P, ib_36 P, ib_37 P, ib_38 P], { }⟩

/-- what is left of a state: its heap, its generators, what it has drawn, its count -/
abbrev four (s : Shared) : Heap × Array GenState × Drawn × Nat := (s.heap, s.gens, s.drawn, s.toks)
abbrev Ran (p : Program) (w : World) (n : Nat) : Option (Heap × Array GenState × Drawn × Nat) := (importEnds treeTable (opening p) w n (start (opening p)).1 (start (opening p)).2).map four
theorem ib_fence {p : Program} {N : Nat} (hr : ∀ w : World, Ran p w 1100 = some (ib_heap w.params, Array.mk [], boot_drawn, ib_toks)) (big : Nat.ble 1100 N = true) (hf : ∀ (w : World) (os : OsState), fenceModules? p ⟨ib_heap w.params, Array.mk [], boot_drawn, ib_toks, os⟩ = some ⟨fb_heap w.params, Array.mk [], boot_drawn, ib_toks, os⟩) (w : World) : (fencedOpening treeTable p w N).map four = some (fb_heap w.params, Array.mk [], boot_drawn, ib_toks) := by
  obtain ⟨s, e1, e2⟩ := Option.map_eq_some_iff.mp (hr w)
  have more := importEnds_mono (N - 1100) _ _ _ _ e1
  have eN : 1100 + (N - 1100) = N := by
    have := Nat.le_of_ble_eq_true big
    omega
  rw [eN] at more
  unfold fencedOpening
  rw [more]
  obtain ⟨hp, gs, dr, ks, os⟩ := s
  obtain ⟨rfl, rfl, rfl, rfl⟩ : hp = ib_heap w.params ∧ gs = Array.mk [] ∧ dr = boot_drawn ∧ ks = ib_toks := by
    simpa [four] using e2
  show (fenceModules? p ⟨ib_heap w.params, Array.mk [], boot_drawn, ib_toks, os⟩).map four = _
  rw [hf w os]
  rfl
theorem ib_isNs (P : Params) : (fb_heap P).isNs mainGlobals = true := by kernel_rfl
def ibAnn (w : World) : Option Value := (fb_heap w.params).nsMap mainGlobals "__annotations__"
def ibLooks (p : Program) (g : Heap) (s : Shared) : Bool := staticsOk (importedModules p.main.body) g s.heap && namesBound p s.heap && gensDone s && laidKept g s.heap
def ibT (w : World) (os : OsState) (r : PySem.W.BT × Nat) : SharedT := ⟨r.1, r.2, (fb_heap w.params).life, #[], boot_drawn, ib_toks, os⟩
def ibEnd (st : SharedT → Thread → Option (SharedT × Thread)) (M : Nat) (p : Program) (w : World) (os : OsState) : Option SharedT :=
  match putAll (fb_heap w.params).objs.toList .nil 0 with
  | none => none
  | some (tr, n) => frNat n fun m => goF st m (ibAnn w) M (ibT w os (tr, n)) (topStub p)
theorem ibEnd_ok {M : Nat} {p : Program} {w : World} {os : OsState} {z : SharedT} (h : ibEnd (stepT (denote treeTable) p w) M p w os = some z) :
    topRun treeTable p w (fb_heap w.params).objs.size (ibAnn w) M ⟨fb_heap w.params, #[], boot_drawn, ib_toks, os⟩ (topStub p) = some z.abs := by
  unfold ibEnd at h
  cases q : putAll (fb_heap w.params).objs.toList .nil 0 with
  | none =>
    rw [q] at h
    cases h
  | some r =>
    obtain ⟨tr, m⟩ := r
    rw [q] at h
    have g : (frNat m fun k => goF (stepT (denote treeTable) p w) k (ibAnn w) M (ibT w os (tr, m)) (topStub p)) = some z := h
    rw [frNat_eq] at g
    have ran := goF_ok g
    have hh := putAll_heap q
    have hn : (fb_heap w.params).objs.size = m := by
      rw [← hh]
      exact absHeap_size tr m _
    have hb : (ibT w os (tr, m)).abs = ⟨fb_heap w.params, #[], boot_drawn, ib_toks, os⟩ := by
      show (⟨absHeap tr m (fb_heap w.params).life, #[], boot_drawn, ib_toks, os⟩ : Shared) = _
      rw [hh]
    rw [hb] at ran
    rw [hn]
    exact ran
theorem ib_left {p q : Program} {loose : List PySem.Str} {Xt : Shared → Bool} {β : Type} {Yf : Shared → β} {Ya : World → β} {N M : Nat}
    (hr : ∀ w : World, Ran p w 1100 = some (ib_heap w.params, Array.mk [], boot_drawn, ib_toks)) (big : Nat.ble 1100 N = true) (hf : ∀ (w : World) (os : OsState), fenceModules? p ⟨ib_heap w.params, Array.mk [], boot_drawn, ib_toks, os⟩ = some ⟨fb_heap w.params, Array.mk [], boot_drawn, ib_toks, os⟩) (less : Nat.ble M N = true)
    (ran : ∀ (w : World) (os : OsState), (ibEnd (stepT (denote treeTable) p w) M p w os).map (fun z => (ibLooks p (fb_heap w.params) z.abs, openSeen q loose (importedModules p.main.body) Xt true z.abs, Yf z.abs)) = some (true, openGood q loose, Ya w)) : LeftO p q loose Xt Yf Ya N true := by
  intro w
  obtain ⟨⟨hp, gs, dr, ks, os⟩, b1, b2⟩ := Option.map_eq_some_iff.mp (ib_fence hr big hf w)
  obtain ⟨rfl, rfl, rfl, rfl⟩ : hp = fb_heap w.params ∧ gs = Array.mk [] ∧ dr = boot_drawn ∧ ks = ib_toks := by
    simpa using b2
  obtain ⟨z, hz, hv⟩ := Option.map_eq_some_iff.mp (ran w os)
  obtain ⟨u1, u2, u3⟩ : _ ∧ _ ∧ _ := by
    simpa only [Prod.mk.injEq] using hv
  have go := topRun_mono (N - M) _ _ _ _ (ibEnd_ok hz)
  have eN : M + (N - M) = N := by
    have := Nat.le_of_ble_eq_true less
    omega
  rw [eN] at go
  have u : (staticsOk (importedModules p.main.body) (fb_heap w.params) z.abs.heap && namesBound p z.abs.heap && gensDone z.abs && laidKept (fb_heap w.params) z.abs.heap) = true := u1
  have top : topFrom treeTable p w N ⟨fb_heap w.params, Array.mk [], boot_drawn, ib_toks, os⟩ = some z.abs := by
    unfold topFrom
    dsimp only
    rw [ib_isNs]
    show (topRun treeTable p w (fb_heap w.params).objs.size (ibAnn w) N ⟨fb_heap w.params, #[], boot_drawn, ib_toks, os⟩ (topStub p)).bind _ = _
    rw [go]
    show (match staticsOk (importedModules p.main.body) (fb_heap w.params) z.abs.heap && namesBound p z.abs.heap && gensDone z.abs && laidKept (fb_heap w.params) z.abs.heap with | true => some z.abs | false => none) = _
    rw [u]
  unfold openEnds
  rw [b1]
  show (topFrom treeTable p w N _).map _ = _
  rw [top]
  exact congrArg some (Prod.ext u2 u3)
theorem ibEnd_eq (M : Nat) (p : Program) (w : World) (os : OsState) : ibEnd (stepT (denote treeTable) p w) M p w os = ibEnd (stepQ (denQ tabQ) p w) M p w os := by
  rw [stepQ_eq, denQ_eq, tabQ_eq]
/-- the run's equation at a world -/
def IbRun (r : OpenRow) (q : Program) (H : Hook) (ob : SharedT → H.α) (M : Nat) (loose : List PySem.Str) (w : World) : Prop :=
  ∀ os : OsState, (ibEnd (stepQ (denQ tabQ) r.prog w) M r.prog w os).map (fun z => (ibLooks r.prog (fb_heap w.params) z.abs, seenQ q loose (importedModules r.prog.main.body) (fun y => xlAt q [] y && recOk r.toRowW.records y) z.abs, ob z)) = some (true, openGood q loose, H.val w)
theorem ib_head {r : OpenRow} {q : Program} {H : Hook} {ob : SharedT → H.α} {M : Nat} {loose : List PySem.Str} {d : DefRec} {kwd : List (PySem.Str × PySem.Expr)} (same : ∀ z : SharedT, ob z = H.obs z.abs)
    (hr : ∀ w : World, Ran r.prog w 1100 = some (ib_heap w.params, Array.mk [], boot_drawn, ib_toks)) (hf : ∀ (w : World) (os : OsState), fenceModules? r.prog ⟨ib_heap w.params, Array.mk [], boot_drawn, ib_toks, os⟩ = some ⟨fb_heap w.params, Array.mk [], boot_drawn, ib_toks, os⟩) (ran : ∀ w, IbRun r q H ob M loose w)
    (a1 : defOf q r.name = some (d, kwd)) (a2 : r.prog.theDef r.name = some (d.params, d.body, d.scope)) (a3 : kwWritten? d.params.kwonlyargs d.params.kw_defaults = some kwd)
    (a4 : (!r.writes || r.records.isEmpty) = true) (a5 : r.wellSaid = true) (a6 : (chainsOk q && opensWell r.prog && (frees r.toRowW && r.within.isEmpty)) = true) (a7 : r.prog.bare) (a8 : r.toRowW.promised)
    (walk : WalkO q loose (XL q []) H.says r.toRowW d kwd fun f vs => PySem.call f vs) : r.Holds := by
  have left : LeftO r.prog q loose (fun y => xlAt q [] y && recOk r.toRowW.records y) H.obs H.val (M + 1100) true := by
    refine ib_left (M := M) hr (Nat.ble_eq_true_of_le (by omega)) hf (Nat.ble_eq_true_of_le (by omega)) fun w os => ?_
    have z := ran w os
    have eo : ob = fun s => H.obs s.abs := funext same
    rw [eo] at z
    simp only [ibEnd_eq, seenQ_eq]
    exact z
  exact holds_open (r := r) (q := q) (loose := loose) (XP := XL q []) (YP := H.says) (d := d) (kwd := kwd) left H.of H.keeps (fun s z => xl_of s (Bool.and_eq_true_iff.mp z).1) XL.keeps a1 a2 a3 (fun s z => recFacts_of (Bool.and_eq_true_iff.mp z).2) a4 a5 a6 a7 a8 walk
/-! ### the opening by the tree -/
def impT (st : SharedT → Thread → Option (SharedT × Thread)) : Nat → SharedT → Thread → Option SharedT
  | 0, _, _ => none
  | m + 1, s, t => match t.atExitBegin with
    | some l => (match l with
      | [] => some s
      | _ :: _ => none)
    | none => (match st s t with
      | none => none
      | some (s2, t2) => frS s2 fun s3 => impT st m s3 t2)
theorem impT_ok {tb : String → Option Builtin} {p : Program} {w : World} : ∀ {m : Nat} {s z : SharedT} {t : Thread}, impT (stepT (denote tb) p w) m s t = some z → importEnds tb p w m s.abs t = some z.abs
  | 0, _, _, _, h => by cases h
  | m + 1, s, z, t, h => by
    unfold impT at h
    unfold importEnds
    cases ht : t.atExitBegin with
    | some l =>
      rw [ht] at h
      cases l with
      | nil =>
        cases h
        rfl
      | cons a l => cases h
    | none =>
      rw [ht] at h
      have h1 : (match stepT (denote tb) p w s t with
        | none => none
        | some (s2, t2) => frS s2 fun s3 => impT (stepT (denote tb) p w) m s3 t2) = some z := h
      cases hs : stepT (denote tb) p w s t with
      | none =>
        rw [hs] at h1
        cases h1
      | some r =>
        obtain ⟨s2, t2⟩ := r
        rw [hs] at h1
        have h2 : (frS s2 fun s3 => impT (stepT (denote tb) p w) m s3 t2) = some z := h1
        rw [frS_eq] at h2
        have ih := impT_ok h2
        show (match step (denote tb) p w s.abs t with
          | .go s' t' => importEnds tb p w m s' t'
          | .halt _ _ => none) = some z.abs
        rw [stepT_spec hs]
        exact ih
def begT (p : Program) : SharedT := ⟨.nil, 0, (start p).1.heap.life, (start p).1.gens, (start p).1.drawn, (start p).1.toks, (start p).1.os⟩
theorem begT_abs (p : Program) : (begT p).abs = (start p).1 := rfl
/-- what the tree's run has to end with -/
def IbT (p : Program) (w : World) : Prop := (impT (stepQ (denQ tabQ) (opening p) w) 1100 (begT (opening p)) (start (opening p)).2).map (fun s => (some (s.tree, s.n), s.life, s.gens, s.drawn, s.toks)) = some (putAll (ib_heap w.params).objs.toList .nil 0, (ib_heap w.params).life, Array.mk [], boot_drawn, ib_toks)
theorem ib_ran {p : Program} {w : World} (h : IbT p w) : Ran p w 1100 = some (ib_heap w.params, Array.mk [], boot_drawn, ib_toks) := by
  unfold IbT at h
  rw [← stepQ_eq, ← denQ_eq, ← tabQ_eq] at h
  obtain ⟨z, e1, e2⟩ := Option.map_eq_some_iff.mp h
  obtain ⟨u1, u2, u3, u4, u5⟩ : _ ∧ _ ∧ _ ∧ _ ∧ _ := by
    simpa only [Prod.mk.injEq] using e2
  have q := impT_ok e1
  rw [begT_abs] at q
  unfold Ran
  rw [q]
  have hh : absHeap z.tree z.n z.life = ib_heap w.params := by
    rw [u2]
    exact putAll_heap u1.symm
  show some (absHeap z.tree z.n z.life, z.gens, z.drawn, z.toks) = _
  rw [hh, u3, u4, u5]
end
end Ib


set_option Elab.async false
set_option autoImplicit false
set_option linter.all false
set_option maxRecDepth 100000
set_option maxHeartbeats 0
namespace Ib
open PySem PySem.Spec
theorem ran0 (w : World) : Ib.IbT (PySem.W.OpenLaw.row PySem.Challenge.rw_crewlags_k60_whole_calendars_that_never).prog w := by
  unfold Ib.IbT
  kernel_rfl
end Ib


set_option Elab.async false
set_option autoImplicit false
set_option linter.all false
set_option maxRecDepth 100000
set_option maxHeartbeats 4000000
/-! Data and how it stands: values told by data (Da), evaluation told over a row of data (one cell a slot), the heap within. -/
namespace Ly
open PySem PySem.Spec PyProof.Rows L2 Evl
inductive Da where
  | non
  | bl (b : Bool)
  | int (i : Int)
  | str (s : Str)
  | lst (l : List Da)
  | tup (l : List Da)
  | ob (C : Addr) (fs : List (Str × Da))
mutual
inductive Rep (K : PySem.W.Frag) (B : Hp) : V → Da → Prop
  | non : Rep K B .non .non
  | bl (b : Bool) : Rep K B (.bl b) (.bl b)
  | int (i : Int) : Rep K B (.int i) (.int i)
  | str (s : Str) : Rep K B (.str s) (.str s)
  | lst {a : Addr} {xs : List V} {ds : List Da} : B a = some (.lst xs) → Reps K B xs ds → Rep K B (.ref a) (.lst ds)
  | tup {a : Addr} {xs : List V} {ds : List Da} : SqT K B a xs → Reps K B xs ds → Rep K B (.ref a) (.tup ds)
  | ob {a C dx : Addr} {fl : List (Str × V)} {fs : List (Str × Da)} : B a = some (.ins C dx fl) → Repf K B fl fs → Rep K B (.ref a) (.ob C fs)
inductive Reps (K : PySem.W.Frag) (B : Hp) : List V → List Da → Prop
  | nil : Reps K B [] []
  | cons {v : V} {vs : List V} {d : Da} {ds : List Da} : Rep K B v d → Reps K B vs ds → Reps K B (v :: vs) (d :: ds)
inductive Repf (K : PySem.W.Frag) (B : Hp) : List (Str × V) → List (Str × Da) → Prop
  | nil : Repf K B [] []
  | cons {f : Str} {v : V} {vs : List (Str × V)} {d : Da} {ds : List (Str × Da)} : Rep K B v d → Repf K B vs ds → Repf K B ((f, v) :: vs) ((f, d) :: ds)
end
section
variable {K : PySem.W.Frag} {B B' : Hp}
mutual
theorem Rep.up (e : Ex B B') : ∀ {d : Da} {v : V}, Rep K B v d → Rep K B' v d
  | .non, _, h => by cases h; exact .non
  | .bl b, _, h => by cases h; exact .bl b
  | .int i, _, h => by cases h; exact .int i
  | .str s, _, h => by cases h; exact .str s
  | .lst ds, _, h => by
    cases h with
    | lst hs ha => exact .lst (e _ _ hs) (Reps.up e ha)
  | .tup ds, _, h => by
    cases h with
    | tup hs ha => exact .tup (ex_t e hs) (Reps.up e ha)
  | .ob C fs, _, h => by
    cases h with
    | ob hs ha => exact .ob (e _ _ hs) (Repf.up e ha)
theorem Reps.up (e : Ex B B') : ∀ {ds : List Da} {vs : List V}, Reps K B vs ds → Reps K B' vs ds
  | [], _, h => by cases h; exact .nil
  | d :: ds, _, h => by
    cases h with
    | cons h1 h2 => exact .cons (Rep.up e h1) (Reps.up e h2)
theorem Repf.up (e : Ex B B') : ∀ {ds : List (Str × Da)} {vs : List (Str × V)}, Repf K B vs ds → Repf K B' vs ds
  | [], _, h => by cases h; exact .nil
  | (f, d) :: ds, _, h => by
    cases h with
    | cons h1 h2 => exact .cons (Rep.up e h1) (Repf.up e h2)
end
theorem Reps.len : ∀ {ds : List Da} {vs : List V}, Reps K B vs ds → vs.length = ds.length
  | [], _, h => by cases h; rfl
  | d :: ds, _, h => by
    cases h with
    | cons h1 h2 => exact congrArg Nat.succ h2.len
theorem Reps.app {xs ys : List V} : ∀ {ds es : List Da}, Reps K B xs ds → Reps K B ys es → Reps K B (xs ++ ys) (ds ++ es) := by
  intro ds es h h'
  induction xs generalizing ds with
  | nil => cases h; exact h'
  | cons x xs ih =>
    cases h with
    | cons h1 h2 => exact .cons h1 (ih h2)
theorem Reps.get : ∀ {ds : List Da} {vs : List V}, Reps K B vs ds → ∀ {i : Nat} {d : Da}, ds[i]? = some d → ∃ v, vs[i]? = some v ∧ Rep K B v d
  | [], _, h, i, d, e => by cases e
  | d0 :: ds, _, h, i, d, e => by
    cases h with
    | cons h1 h2 =>
      cases i with
      | zero => cases e; exact ⟨_, rfl, h1⟩
      | succ i => exact h2.get (i := i) e
theorem Reps.got : ∀ {ds : List Da} {vs : List V}, Reps K B vs ds → ∀ {i : Nat} {v : V}, vs[i]? = some v → ∃ d, ds[i]? = some d ∧ Rep K B v d
  | [], _, h, i, d, e => by cases h; cases e
  | d0 :: ds, _, h, i, d, e => by
    cases h with
    | cons h1 h2 =>
      cases i with
      | zero => cases e; exact ⟨_, rfl, h1⟩
      | succ i => exact h2.got (i := i) e
theorem Repf.get : ∀ {ds : List (Str × Da)} {vs : List (Str × V)}, Repf K B vs ds → ∀ {f : Str} {d : Da}, ds.lookup f = some d → ∃ v, vs.lookup f = some v ∧ Rep K B v d
  | [], _, h, f, d, e => by cases e
  | (g, d0) :: ds, _, h, f, d, e => by
    cases h with
    | @cons _ v0 vs _ _ h1 h2 =>
      by_cases q : f = g
      · subst q
        have e1 : List.lookup f ((f, d0) :: ds) = some d0 := by simp [List.lookup]
        rw [e1] at e
        cases e
        exact ⟨v0, by simp [List.lookup], h1⟩
      · have q2 : (f == g) = false := by simpa using q
        have e1 : List.lookup f ((g, d0) :: ds) = List.lookup f ds := by simp [List.lookup, q2]
        rw [e1] at e
        obtain ⟨v, hv, r⟩ := h2.get e
        exact ⟨v, by simp only [List.lookup, q2]; exact hv, r⟩
/-! ### data without objects, as the library compares it -/
mutual
def Da.py : Da → Option PyData
  | .non => some .none
  | .bl b => some (.bool b)
  | .int i => some (.int i)
  | .str s => some (.str s)
  | .lst l => (Da.pys l).map .list
  | .tup l => (Da.pys l).map .tuple
  | .ob _ _ => none
def Da.pys : List Da → Option (List PyData)
  | [] => some []
  | d :: ds => (Da.py d).bind fun p => (Da.pys ds).map fun ps => p :: ps
end
mutual
theorem Rep.dp : ∀ {d : Da} {v : V} {p : PyData}, Rep K B v d → d.py = some p → Dp K B v p
  | .non, _, _, h, e => by cases h; cases e; exact .non
  | .bl b, _, _, h, e => by cases h; cases e; exact .bl b
  | .int i, _, _, h, e => by cases h; cases e; exact .int i
  | .str s, _, _, h, e => by cases h; cases e; exact .str s
  | .lst ds, _, _, h, e => by
    cases h with
    | lst hs ha =>
      unfold Da.py at e
      obtain ⟨ps, e1, rfl⟩ := Option.map_eq_some_iff.mp e
      exact .lst (SqL.of hs) (Reps.dp ha e1)
  | .tup ds, _, _, h, e => by
    cases h with
    | tup hs ha =>
      unfold Da.py at e
      obtain ⟨ps, e1, rfl⟩ := Option.map_eq_some_iff.mp e
      exact .tup hs (Reps.dp ha e1)
  | .ob C fs, _, _, h, e => by cases e
theorem Reps.dp : ∀ {ds : List Da} {vs : List V} {ps : List PyData}, Reps K B vs ds → Da.pys ds = some ps → DpAll K B vs ps
  | [], _, _, h, e => by cases h; cases e; exact .nil
  | d :: ds, _, _, h, e => by
    cases h with
    | cons h1 h2 =>
      unfold Da.pys at e
      obtain ⟨p, e1, e2⟩ := Option.bind_eq_some_iff.mp e
      obtain ⟨ps, e3, rfl⟩ := Option.map_eq_some_iff.mp e2
      exact .cons (Rep.dp h1 e1) (Reps.dp h2 e3)
end
end
end Ly


set_option Elab.async false
set_option autoImplicit false
set_option linter.all false
set_option maxRecDepth 100000
set_option maxHeartbeats 4000000
namespace Ly
open PySem PySem.Spec PyProof.Rows L2 Evl
/-! ### one cell a slot; the state -/
inductive Cell where
  | no
  | da (d : Da)
  | own (ds : List Da)
  | raw (o : HO)
  | wl
  | fx (f : Addr)
/-- what holds an object of its own -/
def Cell.mine : Cell → Bool
  | .own _ => true
  | .raw _ => true
  | _ => false
/-- the well from which numbers are drawn -/
structure Well (a b k : Int) : Prop where
  a0 : 0 ≤ a
  b0 : 0 ≤ b
  b1 : b < 8589934592
  k0 : 0 ≤ k
structure Ctx where
  K : PySem.W.Frag
  wp : Option Addr
  B0 : Hp
  H0 : Hp
def Ctx.F (c : Ctx) (p : Addr) : Prop := c.wp = some p
def Ctx.J (c : Ctx) (n : Nat) (H : Hp) : Prop := ∀ p, c.wp = some p → ∃ a b k : Int, H p = some (.lst [.int a, .int b, .int k]) ∧ Well a b k ∧ k ≤ (n : Int)
def ExF (F : Addr → Prop) (H H' : Hp) : Prop := ∀ a o, ¬ F a → H a = some o → H' a = some o
theorem ExF.refl (F : Addr → Prop) (H : Hp) : ExF F H H := fun _ _ _ h => h
theorem ExF.trans {F : Addr → Prop} {H H1 H2 : Hp} (a : ExF F H H1) (b : ExF F H1 H2) : ExF F H H2 := fun x o n h => b x o n (a x o n h)
theorem ExF.of {F : Addr → Prop} {H H' : Hp} (e : Ex H H') : ExF F H H' := fun a o _ h => e a o h
def Frm (B H B2 : Hp) : Prop := ∀ a, B a = none → H a ≠ none → B2 a = none
structure Step (c : Ctx) (B H B2 H2 : Hp) : Prop where
  eb : Ex B B2
  bh : Ex B2 H2
  eh : ExF c.F H H2
  fr : Frm B H B2
structure Good (c : Ctx) (B H : Hp) (σ : L2.St) (ρ : List Cell) (n : Nat) : Prop where
  e0 : Ex c.B0 B
  bh : Ex B H
  eh : ExF c.F c.H0 H
  fr : Frm c.B0 c.H0 B
  fB : ∀ p, c.F p → B p = none
  len : σ.length = ρ.length
  cell : ∀ {i : Nat} {d : Da}, ρ[i]? = some (.da d) → ∃ v, σ[i]? = some (some v) ∧ Rep c.K B v d
  own : ∀ {i : Nat} {ds : List Da}, ρ[i]? = some (.own ds) → ∃ l xs, σ[i]? = some (some (.ref l)) ∧ B l = none ∧ ¬ c.F l ∧ c.H0 l = none ∧ H l = some (.lst xs) ∧ Reps c.K B xs ds
  raw : ∀ {i : Nat} {o : HO}, ρ[i]? = some (.raw o) → ∃ l, σ[i]? = some (some (.ref l)) ∧ B l = none ∧ ¬ c.F l ∧ c.H0 l = none ∧ H l = some o
  apart : ∀ {i j : Nat} {x y : Cell} {l : Addr}, ρ[i]? = some x → ρ[j]? = some y → x.mine = true → y.mine = true → σ[i]? = some (some (.ref l)) → σ[j]? = some (some (.ref l)) → i = j
  wl : ∀ {i : Nat}, ρ[i]? = some .wl → ∃ p, c.wp = some p ∧ σ[i]? = some (some (.ref p))
  fx : ∀ {i : Nat} {f : Addr}, ρ[i]? = some (.fx f) → σ[i]? = some (some (.ref f))
  jn : c.J n H
theorem Step.refl {c : Ctx} {B H : Hp} (bh : Ex B H) : Step c B H B H := ⟨Ex.refl _, bh, ExF.refl _ _, fun _ h _ => h⟩
theorem Step.trans {c : Ctx} {B H B1 H1 B2 H2 : Hp} (s : Step c B H B1 H1) (jF : ∀ p, c.F p → H1 p ≠ none) (t : Step c B1 H1 B2 H2) : Step c B H B2 H2 := by
  refine ⟨s.eb.trans t.eb, t.bh, s.eh.trans t.eh, fun a h1 h2 => t.fr a (s.fr a h1 h2) ?_⟩
  by_cases f : c.F a
  · exact jF a f
  · cases q : H a with
    | none => exact absurd q h2
    | some o =>
      rw [s.eh a o f q]
      exact fun z => nomatch z
theorem J.F {c : Ctx} {n : Nat} {H : Hp} (j : c.J n H) (p : Addr) (f : c.F p) : H p ≠ none := by
  obtain ⟨a, b, k, h, _⟩ := j p f
  rw [h]
  exact fun z => nomatch z
theorem J.up {c : Ctx} {n : Nat} {H H' : Hp} (j : c.J n H) (e : Ex H H') : c.J n H' := fun p f => by
  obtain ⟨a, b, k, h, r⟩ := j p f
  exact ⟨a, b, k, e _ _ h, r⟩
section
variable {c : Ctx} {B H B2 H2 : Hp} {σ : L2.St} {ρ : List Cell} {n n2 : Nat}
theorem Good.step (G : Good c B H σ ρ n) (s : Step c B H B2 H2) (j : c.J n2 H2) : Good c B2 H2 σ ρ n2 := by
  have hF : ∀ p, c.F p → B2 p = none := fun p f => s.fr p (G.fB p f) (J.F G.jn p f)
  refine ⟨G.e0.trans s.eb, s.bh, G.eh.trans s.eh, fun a h1 h2 => ?_, hF, G.len, fun h => ?_, fun h => ?_, fun h => ?_, G.apart, G.wl, G.fx, j⟩
  · by_cases f : c.F a
    · exact hF a f
    · refine s.fr a (G.fr a h1 h2) ?_
      cases q : c.H0 a with
      | none => exact absurd q h2
      | some o =>
        rw [G.eh a o f q]
        exact fun z => nomatch z
  · obtain ⟨v, h1, h2⟩ := G.cell h
    exact ⟨v, h1, h2.up s.eb⟩
  · obtain ⟨l, xs, h1, h2, h3, h4, h5, h6⟩ := G.own h
    exact ⟨l, xs, h1, s.fr l h2 (by rw [h5]; exact fun z => nomatch z), h3, h4, s.eh l _ h3 h5, h6.up s.eb⟩
  · obtain ⟨l, h1, h2, h3, h4, h5⟩ := G.raw h
    exact ⟨l, h1, s.fr l h2 (by rw [h5]; exact fun z => nomatch z), h3, h4, s.eh l _ h3 h5⟩
/-- the object of a slot that has one of its own -/
theorem Good.addr (G : Good c B H σ ρ n) {i : Nat} {x : Cell} (h : ρ[i]? = some x) (m : x.mine = true) : ∃ l o, σ[i]? = some (some (.ref l)) ∧ B l = none ∧ ¬ c.F l ∧ c.H0 l = none ∧ H l = some o := by
  cases x with
  | no => cases m
  | da d => cases m
  | wl => cases m
  | fx f => cases m
  | own ds =>
    obtain ⟨l, xs, h1, h2, h3, h4, h5, _⟩ := G.own h
    exact ⟨l, _, h1, h2, h3, h4, h5⟩
  | raw o =>
    obtain ⟨l, h1, h2, h3, h4, h5⟩ := G.raw h
    exact ⟨l, o, h1, h2, h3, h4, h5⟩
/-- a new object, frozen at once -/
theorem step_new {p : Addr} {o : HO} (bh : Ex B H) (hp : H p = none) : Step c B H (upd B p o) (upd H p o) := by
  have bp : B p = none := fresh_back bh hp
  refine ⟨Ex.new bp, fun a u h => ?_, ExF.of (Ex.new hp), fun a h1 h2 => ?_⟩
  · by_cases q : a = p
    · subst q
      rw [upd_same] at h
      rw [upd_same]
      exact h
    · rw [upd_ne q] at h
      rw [upd_ne q]
      exact bh a u h
  · have q : a ≠ p := fun z => h2 (by rw [z]; exact hp)
    rw [upd_ne q]
    exact h1
end
/-! ### evaluation -/
def EvG (c : Ctx) (te : TE) (ρ : List Cell) (n : Nat) (R : Da → Nat → Prop) : Prop := ∀ B H σ, Good c B H σ ρ n → ∀ Q : VK, (∀ v d B2 H2 n2, Step c B H B2 H2 → c.J n2 H2 → Rep c.K B2 v d → R d n2 → Q v H2) → te σ H Q
/-- a value that is known, nothing drawn -/
def EvD (c : Ctx) (te : TE) (ρ : List Cell) (d : Da) : Prop := ∀ B H σ n, Good c B H σ ρ n → ∀ Q : VK, (∀ v B2 H2, Step c B H B2 H2 → c.J n H2 → Rep c.K B2 v d → Q v H2) → te σ H Q
def EvT (c : Ctx) (tt : TT) (ρ : List Cell) (b : Bool) : Prop := ∀ B H σ n, Good c B H σ ρ n → ∀ Q : Bool → Hp → Prop, (∀ B2 H2, Step c B H B2 H2 → c.J n H2 → Q b H2) → tt σ H Q
def EvA (c : Ctx) (ta : TA) (ρ : List Cell) (ds : List Da) : Prop := ∀ B H σ n, Good c B H σ ρ n → ∀ Q : List V → Hp → Prop, (∀ vs B2 H2, Step c B H B2 H2 → c.J n H2 → Reps c.K B2 vs ds → Q vs H2) → ta σ H Q
def EvGA (c : Ctx) (ta : TA) (ρ : List Cell) (n : Nat) (R : List Da → Nat → Prop) : Prop := ∀ B H σ, Good c B H σ ρ n → ∀ Q : List V → Hp → Prop, (∀ vs ds B2 H2 n2, Step c B H B2 H2 → c.J n2 H2 → Reps c.K B2 vs ds → R ds n2 → Q vs H2) → ta σ H Q
section
variable {c : Ctx} {ρ : List Cell} {n : Nat} {te ta tb : TE} {tt tu : TT} {tr : TA} {d e : Da} {i : Nat} {R : Da → Nat → Prop} {b b' : Bool} {v : V} {ds es : List Da}
theorem EvD.g (h : EvD c te ρ d) (r : R d n) : EvG c te ρ n R := fun B H σ G Q q => h B H σ n G Q fun v B2 H2 s j rv => q v d B2 H2 n s j rv r
theorem EvG.imp {R' : Da → Nat → Prop} (h : EvG c te ρ n R) (k : ∀ d m, R d m → R' d m) : EvG c te ρ n R' := fun B H σ G Q q => h B H σ G Q fun v d B2 H2 n2 s j rv r => q v d B2 H2 n2 s j rv (k d n2 r)
theorem EvD.eq (h : EvD c te ρ d) (q : d = e) : EvD c te ρ e := by
  rw [← q]
  exact h
theorem EvT.eq (h : EvT c tt ρ b) (q : b = b') : EvT c tt ρ b' := by
  rw [← q]
  exact h
theorem EvA.g {R : List Da → Nat → Prop} (h : EvA c tr ρ ds) (r : R ds n) : EvGA c tr ρ n R := fun B H σ G Q q => h B H σ n G Q fun v B2 H2 s j rv => q v ds B2 H2 n s j rv r
/-! names, constants -/
theorem d_var (h : ρ[i]? = some (.da d)) : EvD c (tVar i) ρ d := fun B H σ n G Q q => by
  obtain ⟨v, hv, r⟩ := G.cell h
  exact ⟨v, hv, q v B H (Step.refl G.bh) G.jn r⟩
theorem d_c (h : ∀ B, Rep c.K B v d) : EvD c (tC v) ρ d := fun B H σ n G Q q => q v B H (Step.refl G.bh) G.jn (h B)
theorem d_int {i : Int} : EvD c (tC (.int i)) ρ (.int i) := d_c fun _ => .int i
theorem d_bl {b : Bool} : EvD c (tC (.bl b)) ρ (.bl b) := d_c fun _ => .bl b
theorem d_non : EvD c (tC .non) ρ .non := d_c fun _ => .non
theorem d_str {s : Str} : EvD c (tC (.str s)) ρ (.str s) := d_c fun _ => .str s
/-! two operands -/
/-- what an operation on values gives, by data -/
def OpD (c : Ctx) (r : R2) (d e z : Da) : Prop := ∀ B H v w n, Ex B H → c.J n H → Rep c.K B v d → Rep c.K B w e → ∀ Q : VK, (∀ u B2 H2, Step c B H B2 H2 → c.J n H2 → Rep c.K B2 u z → Q u H2) → r v w H Q
def UnD (c : Ctx) (r : V → Hp → VK → Prop) (d z : Da) : Prop := ∀ B H v n, Ex B H → c.J n H → Rep c.K B v d → ∀ Q : VK, (∀ u B2 H2, Step c B H B2 H2 → c.J n H2 → Rep c.K B2 u z → Q u H2) → r v H Q
def CaD (c : Ctx) (r : List V → Hp → VK → Prop) (ds : List Da) (z : Da) : Prop := ∀ B H vs n, Ex B H → c.J n H → Reps c.K B vs ds → ∀ Q : VK, (∀ u B2 H2, Step c B H B2 H2 → c.J n H2 → Rep c.K B2 u z → Q u H2) → r vs H Q
theorem d_op {r : R2} {z : Da} (ha : EvD c ta ρ d) (hb : EvD c tb ρ e) (hr : OpD c r d e z) : EvD c (tOp r ta tb) ρ z := fun B H σ n G Q q =>
  ha B H σ n G _ fun v B1 H1 s1 j1 r1 => hb B1 H1 σ n (G.step s1 j1) _ fun w B2 H2 s2 j2 r2 =>
    hr B2 H2 v w n s2.bh j2 (r1.up s2.eb) r2 Q fun u B3 H3 s3 j3 r3 => q u B3 H3 ((s1.trans (J.F j1) s2).trans (J.F j2) s3) j3 r3
theorem g_op {r : R2} (Ra : Da → Nat → Prop) (ha : EvG c ta ρ n Ra) (hb : ∀ d m, Ra d m → EvG c tb ρ m fun e m2 => ∃ z, OpD c r d e z ∧ R z m2) : EvG c (tOp r ta tb) ρ n R := fun B H σ G Q q =>
  ha B H σ G _ fun v d B1 H1 n1 s1 j1 r1 a1 => hb d n1 a1 B1 H1 σ (G.step s1 j1) _ fun w e B2 H2 n2 s2 j2 r2 ⟨z, hr, a2⟩ =>
    hr B2 H2 v w n2 s2.bh j2 (r1.up s2.eb) r2 Q fun u B3 H3 s3 j3 r3 => q u z B3 H3 n2 ((s1.trans (J.F j1) s2).trans (J.F j2) s3) j3 r3 a2
theorem d_un {r : V → Hp → VK → Prop} {z : Da} (ha : EvD c ta ρ d) (hr : UnD c r d z) : EvD c (tUn r ta) ρ z := fun B H σ n G Q q =>
  ha B H σ n G _ fun v B1 H1 s1 j1 r1 => hr B1 H1 v n s1.bh j1 r1 Q fun u B3 H3 s3 j3 r3 => q u B3 H3 (s1.trans (J.F j1) s3) j3 r3
theorem od_I0 {g : Int → Int → V} {i j : Int} {z : Da} (h : ∀ B, Rep c.K B (g i j) z) : OpD c (rI0 g) (.int i) (.int j) z := fun B H v w n bh jn rv rw Q q => by
  cases rv
  cases rw
  exact ⟨i, j, rfl, rfl, q _ B H (Step.refl bh) jn (h B)⟩
theorem od_I {C : Int → Int → Prop} {g : Int → Int → V} {i j : Int} {z : Da} (hc : C i j) (h : ∀ B, Rep c.K B (g i j) z) : OpD c (rI C g) (.int i) (.int j) z := fun B H v w n bh jn rv rw Q q => by
  cases rv
  cases rw
  exact ⟨i, j, rfl, rfl, hc, q _ B H (Step.refl bh) jn (h B)⟩
theorem ud_I {g : Int → V} {i : Int} {z : Da} (h : ∀ B, Rep c.K B (g i) z) : UnD c (rU g) (.int i) z := fun B H v n bh jn rv Q q => by
  cases rv
  exact ⟨i, rfl, q _ B H (Step.refl bh) jn (h B)⟩
theorem d_int2 {g : Int → Int → Int} {i j : Int} (ha : EvD c ta ρ (.int i)) (hb : EvD c tb ρ (.int j)) : EvD c (tOp (rI0 fun i j => .int (g i j)) ta tb) ρ (.int (g i j)) := d_op ha hb (od_I0 fun _ => .int _)
theorem d_int2c {C : Int → Int → Prop} {g : Int → Int → Int} {i j : Int} (ha : EvD c ta ρ (.int i)) (hb : EvD c tb ρ (.int j)) (hc : C i j) : EvD c (tOp (rI C fun i j => .int (g i j)) ta tb) ρ (.int (g i j)) := d_op ha hb (od_I hc fun _ => .int _)
theorem d_cmp2 {g : Int → Int → Bool} {i j : Int} (ha : EvD c ta ρ (.int i)) (hb : EvD c tb ρ (.int j)) : EvD c (tOp (rI0 fun i j => .bl (g i j)) ta tb) ρ (.bl (g i j)) := d_op ha hb (od_I0 fun _ => .bl _)
theorem d_neg {i : Int} (ha : EvD c ta ρ (.int i)) : EvD c (tUn (rU fun i => .int (-i)) ta) ρ (.int (-i)) := d_un ha (ud_I fun _ => .int _)
/-- == of scalars -/
def Da.sc : Da → Option V
  | .non => some .non
  | .bl b => some (.bl b)
  | .int i => some (.int i)
  | .str s => some (.str s)
  | _ => none
theorem sc_rep {K : PySem.W.Frag} {B : Hp} {d : Da} {v w : V} (h : Rep K B v d) (s : d.sc = some w) : v = w := by
  cases d with
  | non => cases h; cases s; rfl
  | bl b => cases h; cases s; rfl
  | int i => cases h; cases s; rfl
  | str x => cases h; cases s; rfl
  | lst l => cases s
  | tup l => cases s
  | ob C fs => cases s
theorem d_eqS {x y : V} (ha : EvD c ta ρ d) (hb : EvD c tb ρ e) (h1 : d.sc = some x) (h2 : e.sc = some y) (hs : scal x y = true) : EvD c (tOp rEq ta tb) ρ (.bl (decide (x = y))) := d_op ha hb fun B H v w n bh jn rv rw Q q => by
  obtain rfl := sc_rep rv h1
  obtain rfl := sc_rep rw h2
  exact ⟨hs, q _ B H (Step.refl bh) jn (.bl _)⟩
theorem d_neS {x y : V} (ha : EvD c ta ρ d) (hb : EvD c tb ρ e) (h1 : d.sc = some x) (h2 : e.sc = some y) (hs : scal x y = true) : EvD c (tOp rNe ta tb) ρ (.bl (!decide (x = y))) := d_op ha hb fun B H v w n bh jn rv rw Q q => by
  obtain rfl := sc_rep rv h1
  obtain rfl := sc_rep rw h2
  exact ⟨hs, q _ B H (Step.refl bh) jn (.bl _)⟩
/-- == of data -/
theorem d_eqD {p q' : PyData} (ha : EvD c ta ρ d) (hb : EvD c tb ρ e) (h1 : d.py = some p) (h2 : e.py = some q') (s1 : SeqAt.shaped p = true) (s2 : SeqAt.shaped q' = true) : EvD c (tOp (rEqD c.K) ta tb) ρ (.bl (PyData.eqv p q')) := d_op ha hb fun B H v w n bh jn rv rw Q q =>
  ⟨p, q', (rv.up bh).dp h1, (rw.up bh).dp h2, s1, s2, q _ B H (Step.refl bh) jn (.bl _)⟩
theorem d_neD {p q' : PyData} (ha : EvD c ta ρ d) (hb : EvD c tb ρ e) (h1 : d.py = some p) (h2 : e.py = some q') (s1 : SeqAt.shaped p = true) (s2 : SeqAt.shaped q' = true) : EvD c (tOp (rNeD c.K) ta tb) ρ (.bl (!PyData.eqv p q')) := d_op ha hb fun B H v w n bh jn rv rw Q q =>
  ⟨p, q', (rv.up bh).dp h1, (rw.up bh).dp h2, s1, s2, q _ B H (Step.refl bh) jn (.bl _)⟩
/-! places -/
theorem at_map {ds : List Da} {xs : List V} {K : PySem.W.Frag} {B : Hp} {i : Int} (r : Reps K B xs ds) (h : atI ds i = some d) : ∃ v, atI xs i = some v ∧ Rep K B v d := by
  unfold atI at h ⊢
  rw [← r.len] at h
  obtain ⟨j, h1, h2⟩ := Option.bind_eq_some_iff.mp h
  obtain ⟨v, hv, rv⟩ := r.get h2
  exact ⟨v, by rw [h1]; exact hv, rv⟩
theorem d_ixL {i : Int} (ha : EvD c ta ρ (.lst ds)) (hb : EvD c tb ρ (.int i)) (h : atI ds i = some d) : EvD c (tOp (rIxL c.K) ta tb) ρ d := d_op ha hb fun B H v w n bh jn rv rw Q q => by
  cases rv with
  | lst hs hr =>
    cases rw
    obtain ⟨u, hu, ru⟩ := at_map hr h
    exact ⟨_, _, i, u, rfl, rfl, SqL.of (bh _ _ hs), hu, q u B H (Step.refl bh) jn ru⟩
theorem d_ixT {i : Int} (ha : EvD c ta ρ (.tup ds)) (hb : EvD c tb ρ (.int i)) (h : atI ds i = some d) : EvD c (tOp (rIxT c.K) ta tb) ρ d := d_op ha hb fun B H v w n bh jn rv rw Q q => by
  cases rv with
  | tup hs hr =>
    cases rw
    obtain ⟨u, hu, ru⟩ := at_map hr h
    exact ⟨_, _, i, u, rfl, rfl, ex_t bh hs, hu, q u B H (Step.refl bh) jn ru⟩
/-! rows of arguments, displays -/
theorem a_nil : EvA c tNil ρ [] := fun B H σ n G Q q => q [] B H (Step.refl G.bh) G.jn .nil
theorem a_cons (h : EvD c ta ρ d) (hr : EvA c tr ρ ds) : EvA c (tCons ta tr) ρ (d :: ds) := fun B H σ n G Q q =>
  h B H σ n G _ fun v B1 H1 s1 j1 r1 => hr B1 H1 σ n (G.step s1 j1) _ fun vs B2 H2 s2 j2 r2 => q (v :: vs) B2 H2 (s1.trans (J.F j1) s2) j2 (.cons (r1.up s2.eb) r2)
theorem ga_cons {R : List Da → Nat → Prop} (Ra : Da → Nat → Prop) (h : EvG c ta ρ n Ra) (hr : ∀ d m, Ra d m → EvGA c tr ρ m fun ds m2 => R (d :: ds) m2) : EvGA c (tCons ta tr) ρ n R := fun B H σ G Q q =>
  h B H σ G _ fun v d B1 H1 n1 s1 j1 r1 a1 => hr d n1 a1 B1 H1 σ (G.step s1 j1) _ fun vs ds B2 H2 n2 s2 j2 r2 a2 => q (v :: vs) (d :: ds) B2 H2 n2 (s1.trans (J.F j1) s2) j2 (.cons (r1.up s2.eb) r2) a2
theorem big {n : Nat} (h : n ≤ 100000) : n ≤ sizeLine := sz_of h
theorem d_lst (h : EvA c tr ρ ds) (hl : ds.length ≤ 100000) : EvD c (tLst tr) ρ (.lst ds) := fun B H σ n G Q q =>
  h B H σ n G _ fun vs B1 H1 s1 j1 r1 => ⟨by rw [r1.len]; exact big hl, fun p hp => q _ _ _ (s1.trans (J.F j1) (step_new s1.bh hp)) (J.up j1 (Ex.new hp)) (.lst upd_same (r1.up (step_new (c := c) s1.bh hp).eb))⟩
theorem d_tup (h : EvA c tr ρ ds) (hl : ds.length ≤ 100000) : EvD c (tTup tr) ρ (.tup ds) := fun B H σ n G Q q =>
  h B H σ n G _ fun vs B1 H1 s1 j1 r1 => ⟨by rw [r1.len]; exact big hl, fun p hp => q _ _ _ (s1.trans (J.F j1) (step_new s1.bh hp)) (J.up j1 (Ex.new hp)) (.tup (SqT.of upd_same) (r1.up (step_new (c := c) s1.bh hp).eb))⟩
theorem g_tup {R' : List Da → Nat → Prop} (h : EvGA c tr ρ n R') (hl : ∀ ds m, R' ds m → ds.length ≤ 100000 ∧ R (.tup ds) m) : EvG c (tTup tr) ρ n R := fun B H σ G Q q =>
  h B H σ G _ fun vs ds B1 H1 n1 s1 j1 r1 a1 => ⟨by rw [r1.len]; exact big (hl ds n1 a1).1, fun p hp => q _ _ _ _ _ (s1.trans (J.F j1) (step_new s1.bh hp)) (J.up j1 (Ex.new hp)) (.tup (SqT.of upd_same) (r1.up (step_new (c := c) s1.bh hp).eb)) (hl ds n1 a1).2⟩
theorem g_lst {R' : List Da → Nat → Prop} (h : EvGA c tr ρ n R') (hl : ∀ ds m, R' ds m → ds.length ≤ 100000 ∧ R (.lst ds) m) : EvG c (tLst tr) ρ n R := fun B H σ G Q q =>
  h B H σ G _ fun vs ds B1 H1 n1 s1 j1 r1 a1 => ⟨by rw [r1.len]; exact big (hl ds n1 a1).1, fun p hp => q _ _ _ _ _ (s1.trans (J.F j1) (step_new s1.bh hp)) (J.up j1 (Ex.new hp)) (.lst upd_same (r1.up (step_new (c := c) s1.bh hp).eb)) (hl ds n1 a1).2⟩
/-! calls of built-ins by values, of defs by their promise -/
theorem d_cb {r : List V → Hp → VK → Prop} {z : Da} (h : EvA c tr ρ ds) (hr : CaD c r ds z) : EvD c (tCB r tr) ρ z := fun B H σ n G Q q =>
  h B H σ n G _ fun vs B1 H1 s1 j1 r1 => hr B1 H1 vs n s1.bh j1 r1 Q fun u B2 H2 s2 j2 r2 => q u B2 H2 (s1.trans (J.F j1) s2) j2 r2
/-- a step in which nothing that is drawn from changes -/
structure Pure (B H B2 H2 : Hp) : Prop where
  eb : Ex B B2
  bh : Ex B2 H2
  eh : Ex H H2
  fr : Frm B H B2
theorem Pure.step {B H B2 H2 : Hp} (s : Pure B H B2 H2) : Step c B H B2 H2 := ⟨s.eb, s.bh, ExF.of s.eh, s.fr⟩
/-- the promise of a def that changes nothing: from data to data -/
def spR (K : PySem.W.Frag) (R : List Da → Da → Prop) : Sp := fun vs H Q _ => ∃ (B : Hp) (ds : List Da) (d : Da), Ex B H ∧ Reps K B vs ds ∧ R ds d ∧ ∀ v B2 H2, Pure B H B2 H2 → Rep K B2 v d → Q v H2
theorem d_call {S : List Da → Da → Prop} {E : XK} (h : EvA c tr ρ ds) (hS : S ds d) : EvD c (tCall (spR c.K S) [] E tr) ρ d := fun B H σ n G Q q =>
  h B H σ n G _ fun vs B1 H1 s1 j1 r1 => by
    show spR c.K S (vs ++ []) H1 Q E
    rw [List.append_nil]
    exact ⟨B1, ds, d, s1.bh, r1, hS, fun v B2 H2 s2 r2 => q v B2 H2 (s1.trans (J.F j1) s2.step) (J.up j1 s2.eh) r2⟩
theorem g_call {S : List Da → Da → Prop} {E : XK} {Ra : List Da → Nat → Prop} (h : EvGA c tr ρ n Ra) (hS : ∀ ds m, Ra ds m → ∃ d, S ds d ∧ R d m) : EvG c (tCall (spR c.K S) [] E tr) ρ n R := fun B H σ G Q q =>
  h B H σ G _ fun vs ds B1 H1 n1 s1 j1 r1 a1 => by
    obtain ⟨d, hd, rd⟩ := hS ds n1 a1
    show spR c.K S (vs ++ []) H1 Q E
    rw [List.append_nil]
    exact ⟨B1, ds, d, s1.bh, r1, hd, fun v B2 H2 s2 r2 => q v d B2 H2 n1 (s1.trans (J.F j1) s2.step) (J.up j1 s2.eh) r2 rd⟩
theorem cd_len : CaD c (fun xs H Q => ∃ p ys, xs = [.ref p] ∧ (SqL c.K H p ys ∨ SqT c.K H p ys) ∧ Q (.int ys.length) H) [.lst ds] (.int (ds.length : Int)) := fun B H vs n bh jn r Q q => by
  cases r with
  | cons h t =>
    cases t
    cases h with
    | lst hs hr =>
      refine ⟨_, _, rfl, .inl (SqL.of (bh _ _ hs)), ?_⟩
      rw [hr.len]
      exact q _ B H (Step.refl bh) jn (.int _)
theorem cd_lenT : CaD c (fun xs H Q => ∃ p ys, xs = [.ref p] ∧ (SqL c.K H p ys ∨ SqT c.K H p ys) ∧ Q (.int ys.length) H) [.tup ds] (.int (ds.length : Int)) := fun B H vs n bh jn r Q q => by
  cases r with
  | cons h t =>
    cases t
    cases h with
    | tup hs hr =>
      refine ⟨_, _, rfl, .inr (ex_t bh hs), ?_⟩
      rw [hr.len]
      exact q _ B H (Step.refl bh) jn (.int _)
/-! tests -/
theorem t_test (h : EvD c te ρ (.bl b)) : EvT c (tTest te) ρ b := fun B H σ n G Q q => h B H σ n G _ fun v B2 H2 s j r => by
  cases r
  exact ⟨b, rfl, q B2 H2 s j⟩
theorem t_B (h : EvD c te ρ (.bl b)) : EvT c (tB te) ρ b := fun B H σ n G Q q => h B H σ n G _ fun v B2 H2 s j r => by
  cases r
  exact ⟨b, rfl, q B2 H2 s j⟩
theorem t_not (h : EvT c tt ρ b) : EvT c (tNot tt) ρ (!b) := fun B H σ n G Q q => h B H σ n G _ fun B2 H2 s j => q B2 H2 s j
theorem t_and (h : EvT c tt ρ b) (h2 : b = true → EvT c tu ρ b') : EvT c (tAnd tt tu) ρ (b && b') := fun B H σ n G Q q => h B H σ n G _ fun B1 H1 s1 j1 => by
  cases b with
  | true =>
    show tu σ H1 Q
    exact h2 rfl B1 H1 σ n (G.step s1 j1) Q fun B2 H2 s2 j2 => q B2 H2 (s1.trans (J.F j1) s2) j2
  | false =>
    show Q false H1
    exact q B1 H1 s1 j1
theorem t_or (h : EvT c tt ρ b) (h2 : b = false → EvT c tu ρ b') : EvT c (tOr tt tu) ρ (b || b') := fun B H σ n G Q q => h B H σ n G _ fun B1 H1 s1 j1 => by
  cases b with
  | true =>
    show Q true H1
    exact q B1 H1 s1 j1
  | false =>
    show tu σ H1 Q
    exact h2 rfl B1 H1 σ n (G.step s1 j1) Q fun B2 H2 s2 j2 => q B2 H2 (s1.trans (J.F j1) s2) j2
theorem d_not (h : EvD c te ρ (.bl b)) : EvD c (tNotV te) ρ (.bl (!b)) := fun B H σ n G Q q => h B H σ n G _ fun v B2 H2 s j r => by
  cases r
  exact ⟨b, rfl, q _ B2 H2 s j (.bl _)⟩
theorem d_and (h : EvD c ta ρ (.bl b)) (h2 : b = true → EvD c tb ρ (.bl b')) : EvD c (tAndV ta tb) ρ (.bl (b && b')) := fun B H σ n G Q q => h B H σ n G _ fun v B1 H1 s1 j1 r => by
  cases r
  refine ⟨b, rfl, ?_⟩
  cases b with
  | true =>
    show tb σ H1 Q
    exact h2 rfl B1 H1 σ n (G.step s1 j1) Q fun u B2 H2 s2 j2 r2 => q u B2 H2 (s1.trans (J.F j1) s2) j2 r2
  | false =>
    show Q (.bl false) H1
    exact q _ B1 H1 s1 j1 (.bl _)
theorem d_or (h : EvD c ta ρ (.bl b)) (h2 : b = false → EvD c tb ρ (.bl b')) : EvD c (tOrV ta tb) ρ (.bl (b || b')) := fun B H σ n G Q q => h B H σ n G _ fun v B1 H1 s1 j1 r => by
  cases r
  refine ⟨b, rfl, ?_⟩
  cases b with
  | true =>
    show Q (.bl true) H1
    exact q _ B1 H1 s1 j1 (.bl _)
  | false =>
    show tb σ H1 Q
    exact h2 rfl B1 H1 σ n (G.step s1 j1) Q fun u B2 H2 s2 j2 r2 => q u B2 H2 (s1.trans (J.F j1) s2) j2 r2
theorem d_if (h : EvT c tt ρ b) (h1 : b = true → EvD c ta ρ d) (h2 : b = false → EvD c tb ρ d) : EvD c (tIf tt ta tb) ρ d := fun B H σ n G Q q => h B H σ n G _ fun B1 H1 s1 j1 => by
  cases b with
  | true =>
    show ta σ H1 Q
    exact h1 rfl B1 H1 σ n (G.step s1 j1) Q fun u B2 H2 s2 j2 r2 => q u B2 H2 (s1.trans (J.F j1) s2) j2 r2
  | false =>
    show tb σ H1 Q
    exact h2 rfl B1 H1 σ n (G.step s1 j1) Q fun u B2 H2 s2 j2 r2 => q u B2 H2 (s1.trans (J.F j1) s2) j2 r2
/-! fields of an object -/
theorem d_fld {C : Addr} {f : Str} {fs : List (Str × Da)} (h : EvD c te ρ (.ob C fs)) (cl : Cls c.K C) (na : NoAttr c.K C f) (l : fs.lookup f = some d) : EvD c (tFld c.K te f) ρ d := fun B H σ n G Q q => h B H σ n G _ fun v B1 H1 s1 j1 r => by
  cases r with
  | ob hb hr =>
    obtain ⟨u, hu, ru⟩ := hr.get l
    exact ⟨_, C, _, _, u, rfl, s1.bh _ _ hb, cl, na, hu, q u B1 H1 s1 j1 ru⟩
end
end Ly


set_option Elab.async false
set_option autoImplicit false
set_option linter.all false
set_option maxRecDepth 100000
set_option maxHeartbeats 4000000
namespace Ly
open PySem PySem.Spec PyProof.Rows L2
open Evl (Ex)
theorem jnF {c : Ctx} {n : Nat} {H : Hp} (j : c.J n H) (p : Addr) (f : c.F p) : H p ≠ none := J.F j p f
/-! ### statements -/
abbrev Wd := List Cell → Nat → Prop
def noWd : Wd := fun _ _ => False
structure SE where
  nx : Wd
  rt : Da → Nat → Prop
  bk : Wd := noWd
  ct : Wd := noWd
structure Dok (c : Ctx) (B : Hp) (D : Ends) (E : SE) : Prop where
  nx : ∀ {B' H' : Hp} {σ : L2.St} {ρ : List Cell} {n : Nat}, Ex B B' → Good c B' H' σ ρ n → E.nx ρ n → D.nx σ H'
  bk : ∀ {B' H' : Hp} {σ : L2.St} {ρ : List Cell} {n : Nat}, Ex B B' → Good c B' H' σ ρ n → E.bk ρ n → D.bk σ H'
  ct : ∀ {B' H' : Hp} {σ : L2.St} {ρ : List Cell} {n : Nat}, Ex B B' → Good c B' H' σ ρ n → E.ct ρ n → D.ct σ H'
  rt : ∀ {B' H' : Hp} {σ : L2.St} {ρ : List Cell} {n : Nat} {v : V} {d : Da}, Ex B B' → Good c B' H' σ ρ n → Rep c.K B' v d → E.rt d n → D.rt v H'
theorem Dok.up {c : Ctx} {B B1 : Hp} {D : Ends} {E : SE} (e : Evl.Ex B B1) (h : Dok c B D E) : Dok c B1 D E :=
  ⟨fun e1 => h.nx (e.trans e1), fun e1 => h.bk (e.trans e1), fun e1 => h.ct (e.trans e1), fun e1 => h.rt (e.trans e1)⟩
def SvG (c : Ctx) (ts : TS) (ρ : List Cell) (n : Nat) (E : SE) : Prop := ∀ B H σ D, Good c B H σ ρ n → Dok c B D E → ts D σ H
section
variable {c : Ctx} {B H : Hp} {σ : L2.St} {ρ : List Cell} {n i : Nat} {d : Da} {ds : List Da} {v : V}
theorem set_get {α : Type} {l : List α} {i j : Nat} {a b : α} (h : (l.set i a)[j]? = some b) : (j = i ∧ b = a ∧ i < l.length) ∨ (j ≠ i ∧ l[j]? = some b) := by
  by_cases q : j = i
  · subst q
    have hl : j < l.length := by
      have := (List.getElem?_eq_some_iff.mp h).1
      rwa [List.length_set] at this
    rw [List.getElem?_set_self hl] at h
    exact .inl ⟨rfl, (Option.some.inj h).symm, hl⟩
  · rw [List.getElem?_set_ne (Ne.symm q)] at h
    exact .inr ⟨q, h⟩
theorem set_at {α : Type} {l : List α} {i : Nat} {a : α} (h : i < l.length) : (l.set i a)[i]? = some a := List.getElem?_set_self h
theorem set_off {α : Type} {l : List α} {i j : Nat} {a : α} (h : j ≠ i) : (l.set i a)[j]? = l[j]? := List.getElem?_set_ne (Ne.symm h)
/-- a slot takes a value -/
theorem Good.set (G : Good c B H σ ρ n) (r : Rep c.K B v d) : Good c B H (σ.set i (some v)) (ρ.set i (.da d)) n := by
  refine ⟨G.e0, G.bh, G.eh, G.fr, G.fB, by rw [List.length_set, List.length_set, G.len], fun h => ?_, fun h => ?_, fun h => ?_, fun h1 h2 m1 m2 h3 h4 => ?_, fun h => ?_, fun h => ?_, G.jn⟩
  · rcases set_get h with ⟨rfl, e, hl⟩ | ⟨ne, h⟩
    · cases e
      exact ⟨v, set_at (by rw [G.len]; exact hl), r⟩
    · obtain ⟨w, h1, h2⟩ := G.cell h
      exact ⟨w, by rw [set_off ne]; exact h1, h2⟩
  · rcases set_get h with ⟨rfl, e, hl⟩ | ⟨ne, h⟩
    · cases e
    · obtain ⟨l, xs, h1, r⟩ := G.own h
      exact ⟨l, xs, by rw [set_off ne]; exact h1, r⟩
  · rcases set_get h with ⟨rfl, e, hl⟩ | ⟨ne, h⟩
    · cases e
    · obtain ⟨l, h1, r⟩ := G.raw h
      exact ⟨l, by rw [set_off ne]; exact h1, r⟩
  · rcases set_get h1 with ⟨rfl, e, hl⟩ | ⟨ne1, h1⟩
    · subst e
      cases m1
    · rcases set_get h2 with ⟨rfl, e, hl⟩ | ⟨ne2, h2⟩
      · subst e
        cases m2
      · rw [set_off ne1] at h3
        rw [set_off ne2] at h4
        exact G.apart h1 h2 m1 m2 h3 h4
  · rcases set_get h with ⟨rfl, e, hl⟩ | ⟨ne, h⟩
    · cases e
    · obtain ⟨p, h1, h2⟩ := G.wl h
      exact ⟨p, h1, by rw [set_off ne]; exact h2⟩
  · rcases set_get h with ⟨_, e, _⟩ | ⟨ne, h⟩
    · cases e
    · rw [set_off ne]
      exact G.fx h
/-- a slot takes a new object of its own -/
theorem Good.setNew (G : Good c B H σ ρ n) {p : Addr} {o : HO} {x : Cell} (hp : H p = none) (hx : x = .raw o ∨ ∃ xs ds, x = .own ds ∧ o = .lst xs ∧ Reps c.K B xs ds) : Good c B (upd H p o) (σ.set i (some (.ref p))) (ρ.set i x) n := by
  have bp : B p = none := Evl.fresh_back G.bh hp
  have nf : ¬ c.F p := fun f => J.F G.jn p f hp
  have h0 : c.H0 p = none := by
    cases q : c.H0 p with
    | none => rfl
    | some o =>
      rw [G.eh p o nf q] at hp
      cases hp
  have ne : ∀ {a : Addr} {o : HO}, H a = some o → a ≠ p := fun h z => by
    rw [z, hp] at h
    cases h
  refine ⟨G.e0, fun a o h => ?_, fun a o f h => ?_, G.fr, G.fB, by rw [List.length_set, List.length_set, G.len], fun h => ?_, fun h => ?_, fun h => ?_, fun h1 h2 m1 m2 h3 h4 => ?_, fun h => ?_, fun h => ?_, fun q f => ?_⟩
  · rw [upd_ne (ne (G.bh _ _ h))]
    exact G.bh _ _ h
  · rw [upd_ne (ne (G.eh _ _ f h))]
    exact G.eh _ _ f h
  · rcases set_get h with ⟨rfl, e, hl⟩ | ⟨nq, h⟩
    · rcases hx with z | ⟨_, _, z, _⟩
      · rw [z] at e
        cases e
      · rw [z] at e
        cases e
    · obtain ⟨w, h1, h2⟩ := G.cell h
      exact ⟨w, by rw [set_off nq]; exact h1, h2⟩
  · rcases set_get h with ⟨rfl, e, hl⟩ | ⟨nq, h⟩
    · rcases hx with z | ⟨xs, ds, z, z2, r⟩
      · rw [z] at e
        cases e
      · rw [z] at e
        cases e
        exact ⟨p, xs, set_at (by rw [G.len]; exact hl), bp, nf, h0, by rw [upd_same, z2], r⟩
    · obtain ⟨l, ys, h1, h2, h3, h4, h5, h6⟩ := G.own h
      exact ⟨l, ys, by rw [set_off nq]; exact h1, h2, h3, h4, by rw [upd_ne (ne h5)]; exact h5, h6⟩
  · rcases set_get h with ⟨rfl, e, hl⟩ | ⟨nq, h⟩
    · rcases hx with z | ⟨xs, ds, z, z2, r⟩
      · rw [z] at e
        cases e
        exact ⟨p, set_at (by rw [G.len]; exact hl), bp, nf, h0, upd_same⟩
      · rw [z] at e
        cases e
    · obtain ⟨l, h1, h2, h3, h4, h5⟩ := G.raw h
      exact ⟨l, by rw [set_off nq]; exact h1, h2, h3, h4, by rw [upd_ne (ne h5)]; exact h5⟩
  · rcases set_get h1 with ⟨e1, _, hl⟩ | ⟨n1, h1⟩
    · rcases set_get h2 with ⟨e2, _, _⟩ | ⟨n2, h2⟩
      · rw [e1, e2]
      · rw [e1, set_at (by rw [G.len]; exact hl)] at h3
        rw [set_off n2] at h4
        obtain ⟨l, o, g1, _, _, _, g5⟩ := G.addr h2 m2
        rw [g1] at h4
        cases h4
        cases h3
        exact absurd rfl (ne g5)
    · rcases set_get h2 with ⟨e2, _, hl⟩ | ⟨n2, h2⟩
      · rw [e2, set_at (by rw [G.len]; exact hl)] at h4
        rw [set_off n1] at h3
        obtain ⟨l, o, g1, _, _, _, g5⟩ := G.addr h1 m1
        rw [g1] at h3
        cases h3
        cases h4
        exact absurd rfl (ne g5)
      · rw [set_off n1] at h3
        rw [set_off n2] at h4
        exact G.apart h1 h2 m1 m2 h3 h4
  · rcases set_get h with ⟨rfl, e, hl⟩ | ⟨nq, h⟩
    · rcases hx with z | ⟨_, _, z, _⟩
      · rw [z] at e
        cases e
      · rw [z] at e
        cases e
    · obtain ⟨q, h1, h2⟩ := G.wl h
      exact ⟨q, h1, by rw [set_off nq]; exact h2⟩
  · rcases set_get h with ⟨_, e, _⟩ | ⟨nq, h⟩
    · rcases hx with z | ⟨_, _, z, _⟩
      · rw [z] at e
        cases e
      · rw [z] at e
        cases e
    · rw [set_off nq]
      exact G.fx h
  · obtain ⟨a, b, k, h, r⟩ := G.jn q f
    exact ⟨a, b, k, by rw [upd_ne (ne h)]; exact h, r⟩
theorem Good.setOwn (G : Good c B H σ ρ n) {p : Addr} {xs : List V} (hp : H p = none) (r : Reps c.K B xs ds) : Good c B (upd H p (.lst xs)) (σ.set i (some (.ref p))) (ρ.set i (.own ds)) n := G.setNew hp (.inr ⟨xs, ds, rfl, rfl, r⟩)
theorem Good.setRaw (G : Good c B H σ ρ n) {p : Addr} {o : HO} (hp : H p = none) : Good c B (upd H p o) (σ.set i (some (.ref p))) (ρ.set i (.raw o)) n := G.setNew hp (.inl rfl)
/-- an object of one's own is changed -/
theorem Good.mut (G : Good c B H σ ρ n) {x y : Cell} {o' : HO} (h : ρ[i]? = some x) (m : x.mine = true) {l : Addr} (hl : σ[i]? = some (some (.ref l))) (hy : y = .raw o' ∨ ∃ ys es, y = .own es ∧ o' = .lst ys ∧ Reps c.K B ys es) : Good c B (upd H l o') σ (ρ.set i y) n := by
  obtain ⟨l2, o, g1, g2, g3, g4, g5⟩ := G.addr h m
  have el : l2 = l := by
    rw [g1] at hl
    cases hl
    rfl
  rw [el] at g1 g2 g3 g4 g5
  clear el
  have hi : i < ρ.length := (List.getElem?_eq_some_iff.mp h).1
  refine ⟨G.e0, fun a o q => ?_, fun a o f q => ?_, G.fr, G.fB, by rw [List.length_set, G.len], fun q => ?_, fun q => ?_, fun q => ?_, fun h1 h2 m1 m2 h3 h4 => ?_, fun q => ?_, fun q => ?_, fun p f => ?_⟩
  · have ne : a ≠ l := fun z => by
      rw [z, g2] at q
      cases q
    rw [upd_ne ne]
    exact G.bh _ _ q
  · have ne : a ≠ l := fun z => by
      rw [z, g4] at q
      cases q
    rw [upd_ne ne]
    exact G.eh _ _ f q
  · rcases set_get q with ⟨rfl, e, _⟩ | ⟨nq, q⟩
    · rcases hy with z | ⟨_, _, z, _⟩
      · rw [z] at e
        cases e
      · rw [z] at e
        cases e
    · exact G.cell q
  · rcases set_get q with ⟨rfl, e, _⟩ | ⟨nq, q⟩
    · rcases hy with z | ⟨ys, es, z, z2, r⟩
      · rw [z] at e
        cases e
      · rw [z] at e
        cases e
        exact ⟨l, ys, g1, g2, g3, g4, by rw [upd_same, z2], r⟩
    · obtain ⟨k, zs, k1, k2, k3, k4, k5, k6⟩ := G.own q
      have ne : k ≠ l := fun z => by
        subst z
        exact nq (G.apart q h rfl m k1 g1)
      exact ⟨k, zs, k1, k2, k3, k4, by rw [upd_ne ne]; exact k5, k6⟩
  · rcases set_get q with ⟨rfl, e, _⟩ | ⟨nq, q⟩
    · rcases hy with z | ⟨ys, es, z, z2, r⟩
      · rw [z] at e
        cases e
        exact ⟨l, g1, g2, g3, g4, upd_same⟩
      · rw [z] at e
        cases e
    · obtain ⟨k, k1, k2, k3, k4, k5⟩ := G.raw q
      have ne : k ≠ l := fun z => by
        subst z
        exact nq (G.apart q h rfl m k1 g1)
      exact ⟨k, k1, k2, k3, k4, by rw [upd_ne ne]; exact k5⟩
  · have back : ∀ {j : Nat} {x' : Cell}, (ρ.set i y)[j]? = some x' → x'.mine = true → ∃ x'', ρ[j]? = some x'' ∧ x''.mine = true := fun {j x'} q mm => by
      rcases set_get q with ⟨rfl, _, _⟩ | ⟨_, q⟩
      · exact ⟨_, h, m⟩
      · exact ⟨_, q, mm⟩
    obtain ⟨_, b1, n1⟩ := back h1 m1
    obtain ⟨_, b2, n2⟩ := back h2 m2
    exact G.apart b1 b2 n1 n2 h3 h4
  · rcases set_get q with ⟨rfl, e, _⟩ | ⟨nq, q⟩
    · rcases hy with z | ⟨_, _, z, _⟩
      · rw [z] at e
        cases e
      · rw [z] at e
        cases e
    · exact G.wl q
  · rcases set_get q with ⟨_, e, _⟩ | ⟨nq, q⟩
    · rcases hy with z | ⟨_, _, z, _⟩
      · rw [z] at e
        cases e
      · rw [z] at e
        cases e
    · exact G.fx q
  · have ne : p ≠ l := fun z => g3 (by rw [← z]; exact f)
    obtain ⟨a, b, k, q, r⟩ := G.jn p f
    exact ⟨a, b, k, by rw [upd_ne ne]; exact q, r⟩
theorem Good.mutOwn (G : Good c B H σ ρ n) {es : List Da} (h : ρ[i]? = some (.own ds)) {l : Addr} (hl : σ[i]? = some (some (.ref l))) {ys : List V} (r : Reps c.K B ys es) : Good c B (upd H l (.lst ys)) σ (ρ.set i (.own es)) n := G.mut h rfl hl (.inr ⟨ys, es, rfl, rfl, r⟩)
theorem Good.mutRaw (G : Good c B H σ ρ n) {o o' : HO} (h : ρ[i]? = some (.raw o)) {l : Addr} (hl : σ[i]? = some (some (.ref l))) : Good c B (upd H l o') σ (ρ.set i (.raw o')) n := G.mut h rfl hl (.inl rfl)
/-- an own list is one's own no more: it is data from now on -/
theorem Good.freeze (G : Good c B H σ ρ n) (h : ρ[i]? = some (.own ds)) : ∃ B', Ex B B' ∧ Good c B' H σ (ρ.set i (.da (.lst ds))) n := by
  obtain ⟨l, xs, g1, g2, g3, g4, g5, g6⟩ := G.own h
  have e : Ex B (upd B l (.lst xs)) := Ex.new g2
  have nb : ∀ {a : Addr}, B a = none → a ≠ l → upd B l (.lst xs) a = none := fun h q => by
    rw [upd_ne q]
    exact h
  refine ⟨_, e, ⟨G.e0.trans e, fun a o q => ?_, G.eh, fun a h1 h2 => ?_, fun p f => ?_, by rw [List.length_set, G.len], fun q => ?_, fun q => ?_, fun q => ?_, fun h1 h2 m1 m2 h3 h4 => ?_, fun q => ?_, fun q => ?_, G.jn⟩⟩
  · by_cases z : a = l
    · subst z
      rw [upd_same] at q
      cases q
      exact g5
    · rw [upd_ne z] at q
      exact G.bh _ _ q
  · exact nb (G.fr a h1 h2) fun z => h2 (by rw [z]; exact g4)
  · exact nb (G.fB p f) fun z => g3 (by rw [← z]; exact f)
  · rcases set_get q with ⟨rfl, z, _⟩ | ⟨nq, q⟩
    · cases z
      exact ⟨_, g1, .lst upd_same (g6.up e)⟩
    · obtain ⟨w, k1, k2⟩ := G.cell q
      exact ⟨w, k1, k2.up e⟩
  · rcases set_get q with ⟨rfl, z, _⟩ | ⟨nq, q⟩
    · cases z
    · obtain ⟨m, zs, k1, k2, k3, k4, k5, k6⟩ := G.own q
      exact ⟨m, zs, k1, nb k2 (fun z => by
        subst z
        exact nq (G.apart q h rfl rfl k1 g1)), k3, k4, k5, k6.up e⟩
  · rcases set_get q with ⟨rfl, z, _⟩ | ⟨nq, q⟩
    · cases z
    · obtain ⟨m, k1, k2, k3, k4, k5⟩ := G.raw q
      exact ⟨m, k1, nb k2 (fun z => by
        subst z
        exact nq (G.apart q h rfl rfl k1 g1)), k3, k4, k5⟩
  · rcases set_get h1 with ⟨_, z, _⟩ | ⟨_, h1⟩
    · subst z
      cases m1
    · rcases set_get h2 with ⟨_, z, _⟩ | ⟨_, h2⟩
      · subst z
        cases m2
      · exact G.apart h1 h2 m1 m2 h3 h4
  · rcases set_get q with ⟨rfl, z, _⟩ | ⟨nq, q⟩
    · cases z
    · exact G.wl q
  · rcases set_get q with ⟨_, z, _⟩ | ⟨nq, q⟩
    · cases z
    · exact G.fx q
end
section
variable {c : Ctx} {ρ : List Cell} {n i : Nat} {te ta tb : TE} {tt : TT} {tr : TA} {d : Da} {ds : List Da} {E : SE} {t u : TS} {R : Da → Nat → Prop} {b : Bool} {g : TG}
theorem s_seq (h : SvG c t ρ n { E with nx := fun ρ' n' => SvG c u ρ' n' E }) : SvG c (tSeq t u) ρ n E := fun B H σ D G K =>
  h B H σ _ G ⟨fun e G' h' => h' _ _ _ D G' (K.up e), fun e => K.bk e, fun e => K.ct e, fun e => K.rt e⟩
theorem s_next (h : E.nx ρ n) : SvG c tNext ρ n E := fun B H σ D G K => K.nx (Ex.refl B) G h
theorem s_brk (h : E.bk ρ n) : SvG c tBreak ρ n E := fun B H σ D G K => K.bk (Ex.refl B) G h
theorem s_cont (h : E.ct ρ n) : SvG c tCont ρ n E := fun B H σ D G K => K.ct (Ex.refl B) G h
theorem s_setG (h : EvG c te ρ n R) (k : ∀ d m, R d m → E.nx (ρ.set i (.da d)) m) : SvG c (tAsg te (gName i)) ρ n E := fun B H σ D G K =>
  h B H σ G _ fun v d B1 H1 m s j r a => K.nx s.eb ((G.step s j).set r) (k d m a)
theorem s_set (h : EvD c te ρ d) (k : E.nx (ρ.set i (.da d)) n) : SvG c (tAsg te (gName i)) ρ n E := fun B H σ D G K =>
  h B H σ n G _ fun v B1 H1 s j r => K.nx s.eb ((G.step s j).set r) k
theorem s_own (h : EvA c tr ρ ds) (hl : ds.length ≤ 100000) (k : E.nx (ρ.set i (.own ds)) n) : SvG c (tAsg (tLst tr) (gName i)) ρ n E := fun B H σ D G K =>
  h B H σ n G _ fun vs B1 H1 s j r => ⟨by rw [r.len]; exact big hl, fun p hp => K.nx s.eb ((G.step s j).setOwn hp r) k⟩
theorem s_freeze (h : ρ[i]? = some (.own ds)) (k : SvG c t (ρ.set i (.da (.lst ds))) n E) : SvG c t ρ n E := fun B H σ D G K => by
  obtain ⟨B', e, G'⟩ := G.freeze h
  exact k B' H σ D G' (K.up e)
theorem s_retG (h : EvG c te ρ n R) (k : ∀ d m, R d m → E.rt d m) : SvG c (tRet te) ρ n E := fun B H σ D G K =>
  h B H σ G _ fun v d B1 H1 m s j r a => K.rt s.eb (G.step s j) r (k d m a)
theorem s_ret (h : EvD c te ρ d) (k : E.rt d n) : SvG c (tRet te) ρ n E := fun B H σ D G K =>
  h B H σ n G _ fun v B1 H1 s j r => K.rt s.eb (G.step s j) r k
theorem s_retN (k : E.rt .non n) : SvG c tRetN ρ n E := fun B H σ D G K => K.rt (Ex.refl B) G .non k
/-- an own list is handed back -/
theorem s_retOwn (h : ρ[i]? = some (.own ds)) (k : E.rt (.lst ds) n) : SvG c (tRet (tVar i)) ρ n E := s_freeze h (s_ret (d_var (set_at (List.getElem?_eq_some_iff.mp h).1)) k)
theorem s_if (h : EvT c tt ρ b) (h1 : b = true → SvG c t ρ n E) (h2 : b = false → SvG c u ρ n E) : SvG c (tIfS tt t u) ρ n E := fun B H σ D G K =>
  h B H σ n G _ fun B1 H1 s j => by
    cases b with
    | true =>
      show t D σ H1
      exact h1 rfl B1 H1 σ D (G.step s j) (K.up s.eb)
    | false =>
      show u D σ H1
      exact h2 rfl B1 H1 σ D (G.step s j) (K.up s.eb)
theorem s_drop (h : EvD c te ρ d) (k : E.nx ρ n) : SvG c (tDrop te) ρ n E := fun B H σ D G K => h B H σ n G _ fun v B1 H1 s j r => K.nx s.eb (G.step s j) k
/-- xs.append(e), xs an own list -/
theorem s_appG (h : ρ[i]? = some (.own ds)) (hv : EvG c te ρ n R) (hl : ds.length < 100000) (k : ∀ d m, R d m → E.nx (ρ.set i (.own (ds ++ [d]))) m) : SvG c (tDrop (tBM c.K "list" rAppend (tVar i) (tCons te tNil))) ρ n E := fun B H σ D G K => by
  obtain ⟨l, xs, g1, g2, g3, g4, g5, g6⟩ := G.own h
  refine ⟨_, g1, .inl ⟨rfl, xs, SqL.of g5⟩, hv B H σ G _ fun v d B1 H1 m s j r a => ?_⟩
  have G1 := G.step s j
  obtain ⟨l', ys, k1, k2, k3, k4, k5, k6⟩ := G1.own h
  rw [g1] at k1
  cases k1
  exact ⟨l, ys, v, rfl, rfl, k5, by rw [k6.len]; exact Evl.sz_lt hl, K.nx s.eb (G1.mutOwn h g1 (k6.app (.cons r .nil))) (k d m a)⟩
theorem s_app (h : ρ[i]? = some (.own ds)) (hv : EvD c te ρ d) (hl : ds.length < 100000) (k : E.nx (ρ.set i (.own (ds ++ [d]))) n) : SvG c (tDrop (tBM c.K "list" rAppend (tVar i) (tCons te tNil))) ρ n E :=
  s_appG h (hv.g (R := fun e m => e = d ∧ m = n) ⟨rfl, rfl⟩) hl fun e m q => by
    obtain ⟨rfl, rfl⟩ := q
    exact k
/-- xs.extend(e), xs an own list, e a list -/
theorem s_ext {es : List Da} (h : ρ[i]? = some (.own ds)) (hv : EvD c te ρ (.lst es)) (hl : ds.length + es.length ≤ 100000) (k : E.nx (ρ.set i (.own (ds ++ es))) n) : SvG c (tDrop (tBM c.K "list" rExtend (tVar i) (tCons te tNil))) ρ n E := fun B H σ D G K => by
  obtain ⟨l, xs, g1, g2, g3, g4, g5, g6⟩ := G.own h
  refine ⟨_, g1, .inl ⟨rfl, xs, SqL.of g5⟩, hv B H σ n G _ fun v B1 H1 s j r => ?_⟩
  have G1 := G.step s j
  obtain ⟨l', ys, k1, k2, k3, k4, k5, k6⟩ := G1.own h
  rw [g1] at k1
  cases k1
  cases r with
  | lst hs hr => exact ⟨l, _, ys, _, rfl, rfl, k5, G1.bh _ _ hs, by rw [k6.len, hr.len]; exact big hl, K.nx s.eb (G1.mutOwn h g1 (k6.app hr)) k⟩
/-! targets -/
def TgD (c : Ctx) (g : TG) (d : Da) (ρ ρ' : List Cell) : Prop := ∀ B H σ n v, Good c B H σ ρ n → Rep c.K B v d → ∀ Q : L2.St → Hp → Prop, (∀ σ', Good c B H σ' ρ' n → Q σ' H) → g v σ H Q
def TgsD (c : Ctx) (g : TGs) (ds : List Da) (ρ ρ' : List Cell) : Prop := ∀ B H σ n vs, Good c B H σ ρ n → Reps c.K B vs ds → ∀ Q : L2.St → Hp → Prop, (∀ σ', Good c B H σ' ρ' n → Q σ' H) → g vs σ H Q
theorem tg_name : TgD c (gName i) d ρ (ρ.set i (.da d)) := fun B H σ n v G r Q q => q _ (G.set r)
theorem tgs_nil : TgsD c gNil [] ρ ρ := fun B H σ n vs G r Q q => by
  cases r
  exact ⟨rfl, q _ G⟩
theorem tgs_cons {gs : TGs} {ρ1 ρ2 : List Cell} (h : TgD c g d ρ ρ1) (h2 : TgsD c gs ds ρ1 ρ2) : TgsD c (gCons g gs) (d :: ds) ρ ρ2 := fun B H σ n vs G r Q q => by
  cases r with
  | cons r1 r2 => exact ⟨_, _, rfl, h B H σ n _ G r1 _ fun σ1 G1 => h2 B H σ1 n _ G1 r2 Q q⟩
theorem tg_tup {gs : TGs} {ρ' : List Cell} {k : Nat} (hk : ds.length = k) (h : TgsD c gs ds ρ ρ') : TgD c (gTup c.K k gs) (.tup ds) ρ ρ' := fun B H σ n v G r Q q => by
  cases r with
  | tup hs hr => exact ⟨_, _, rfl, Evl.ex_t G.bh hs, by rw [hr.len]; exact hk, h B H σ n _ G hr Q q⟩
theorem s_asg {ρ' : List Cell} (h : EvD c te ρ d) (hg : TgD c g d ρ ρ') (k : E.nx ρ' n) : SvG c (tAsg te g) ρ n E := fun B H σ D G K =>
  h B H σ n G _ fun v B1 H1 s j r => hg B1 H1 σ n v (G.step s j) r _ fun σ' G' => K.nx s.eb G' k
/-! loops -/
/-- what is walked: N things, dd k the k-th as data; P tells which N, dd (and how much has been drawn) -/
def Wk (c : Ctx) (wi : TI) (ρ : List Cell) (n : Nat) (P : Nat → (Nat → Da) → Nat → Prop) : Prop := ∀ B H σ, Good c B H σ ρ n → ∀ S : It → Hp → Prop,
  (∀ J N dd n2 B1 H1, P N dd n2 → Step c B H B1 H1 → c.J n2 H1 → (∀ H', Ex B1 H' → ∀ k, (k < N → J.go k H') ∧ (k = N → J.stop k H')) →
    (∀ H' k x H'' B' n', k < N → Ex B1 B' → Ex B' H' → c.J n' H' → J.yld k H' x H'' → ∃ B'', Step c B' H' B'' H'' ∧ c.J n' H'' ∧ Rep c.K B'' x (dd k)) → S J H1) → wi σ H S
def Just (n N : Nat) (dd : Nat → Da) : Nat → (Nat → Da) → Nat → Prop := fun N' dd' n' => N' = N ∧ dd' = dd ∧ n' = n
theorem s_forP {wi : TI} {P : Nat → (Nat → Da) → Nat → Prop} (hw : Wk c wi ρ n P)
    (hs : ∀ N dd n2, P N dd n2 → ∃ I : Nat → Wd, I 0 ρ n2 ∧ (∀ k ρ' n', k < N → I k ρ' n' → ∃ ρ'', TgD c g (dd k) ρ' ρ'' ∧ SvG c t ρ'' n' { E with nx := I (k + 1), ct := I (k + 1), bk := E.nx }) ∧ ∀ ρ' n', I N ρ' n' → E.nx ρ' n') :
    SvG c (tFor wi g t) ρ n E := fun B H σ D G K => by
  refine hw B H σ G _ fun J N dd n2 B1 H1 hP s j hgo hy => ?_
  obtain ⟨I, h0, hs, hd⟩ := hs N dd n2 hP
  refine ⟨fun k m σ' H' => m = N - k ∧ k ≤ N ∧ ∃ B' ρ' n', Ex B1 B' ∧ Good c B' H' σ' ρ' n' ∧ I k ρ' n', ⟨N, by omega, Nat.zero_le _, B1, ρ, n2, Ex.refl _, G.step s j, h0⟩, ?_⟩
  rintro k m σ' H' ⟨rfl, hk, B', ρ', n', e, G', hI⟩
  by_cases lt : k < N
  · refine .inr ⟨(hgo H' (e.trans G'.bh) k).1 lt, fun σ2 H2 => ∃ B2 ρ2 n2, Ex B1 B2 ∧ Good c B2 H2 σ2 ρ2 n2 ∧ I (k + 1) ρ2 n2, fun σ2 H2 ⟨B2, ρ2, n2, e2, G2, hI2⟩ => ⟨N - (k + 1), by omega, rfl, lt, B2, ρ2, n2, e2, G2, hI2⟩, fun x H'' y => ?_⟩
    obtain ⟨B'', s2, j2, rx⟩ := hy H' k x H'' B' n' lt e G'.bh G'.jn y
    have G2 := G'.step s2 j2
    have e2 := s2.eb
    obtain ⟨ρ'', hg, hb⟩ := hs k ρ' n' lt hI
    refine hg B'' H'' σ' n' x G2 rx _ fun σ3 G3 => hb B'' H'' σ3 _ G3 ?_
    have K2 := K.up (s.eb.trans (e.trans e2))
    exact ⟨fun e4 G4 h4 => ⟨_, _, _, (e.trans e2).trans e4, G4, h4⟩, fun e4 => K2.nx e4, fun e4 G4 h4 => ⟨_, _, _, (e.trans e2).trans e4, G4, h4⟩, fun e4 => K2.rt e4⟩
  · have ek : k = N := by omega
    exact .inl ⟨(hgo H' (e.trans G'.bh) k).2 ek, K.nx (s.eb.trans e) G' (hd ρ' n' (by rw [← ek]; exact hI))⟩
/-- .. where it is known what is walked -/
theorem s_for {wi : TI} {N : Nat} {dd : Nat → Da} (I : Nat → Wd) (hw : Wk c wi ρ n (Just n N dd)) (h0 : I 0 ρ n)
    (hs : ∀ k ρ' n', k < N → I k ρ' n' → ∃ ρ'', TgD c g (dd k) ρ' ρ'' ∧ SvG c t ρ'' n' { E with nx := I (k + 1), ct := I (k + 1), bk := E.nx }) (hd : ∀ ρ' n', I N ρ' n' → E.nx ρ' n') :
    SvG c (tFor wi g t) ρ n E := s_forP hw fun N' dd' n' h => by
  obtain ⟨rfl, rfl, rfl⟩ := h
  exact ⟨I, h0, hs, hd⟩
/-! what is walked: lists, tuples, ranges, enumerate -/
def nth (ds : List Da) (k : Nat) : Da := ds.getD k .non
theorem nth_at {ds : List Da} {k : Nat} {d : Da} (h : ds[k]? = some d) : nth ds k = d := by
  unfold nth
  rw [List.getD_eq_getElem?_getD, h]
  rfl
theorem wk_list (h : EvD c te ρ (.lst ds)) : Wk c (iList c.K te) ρ n (Just n ds.length (nth ds)) := fun B H σ G S q => h B H σ n G _ fun v B1 H1 s j r => by
  cases r with
  | @lst a xs _ hb hr =>
    have sq : ∀ H', Ex B1 H' → SqL c.K H' a xs := fun H' e => SqL.of (e _ _ hb)
    refine ⟨a, rfl, ⟨xs, sq _ s.bh⟩, q _ _ _ _ B1 H1 ⟨rfl, rfl, rfl⟩ s j (fun H' e k => ⟨fun lt => ?_, fun ek => ?_⟩) fun H' k x H'' B' n' lt e e' j' y => ?_⟩
    · exact (walk_list (xs := xs)).goes k H' (by rw [hr.len]; exact lt) (sq H' e)
    · rw [ek, ← hr.len]
      exact walk_list.stops H' (sq H' e)
    · obtain ⟨eh, hx⟩ := (walk_list (xs := xs)).yields k H' x H'' (by rw [hr.len]; exact lt) (sq H' (e.trans e')) y
      subst eh
      obtain ⟨d, hd, rd⟩ := hr.got hx
      refine ⟨B', Step.refl e', j', ?_⟩
      rw [nth_at hd]
      exact rd.up e
theorem wk_tup (h : EvD c te ρ (.tup ds)) : Wk c (iTup c.K te) ρ n (Just n ds.length (nth ds)) := fun B H σ G S q => h B H σ n G _ fun v B1 H1 s j r => by
  cases r with
  | @tup a xs _ hb hr =>
    have sq : ∀ H', Ex B1 H' → SqT c.K H' a xs := fun H' e => Evl.ex_t e hb
    refine ⟨a, rfl, ⟨xs, sq _ s.bh⟩, q _ _ _ _ B1 H1 ⟨rfl, rfl, rfl⟩ s j (fun H' e k => ⟨fun lt => ?_, fun ek => ?_⟩) fun H' k x H'' B' n' lt e e' j' y => ?_⟩
    · exact (walk_tup (xs := xs)).goes k H' (by rw [hr.len]; exact lt) (sq H' e)
    · rw [ek, ← hr.len]
      exact walk_tup.stops H' (sq H' e)
    · obtain ⟨eh, hx⟩ := (walk_tup (xs := xs)).yields k H' x H'' (by rw [hr.len]; exact lt) (sq H' (e.trans e')) y
      subst eh
      obtain ⟨d, hd, rd⟩ := hr.got hx
      refine ⟨B', Step.refl e', j', ?_⟩
      rw [nth_at hd]
      exact rd.up e
def upTo (lo : Int) (k : Nat) : Da := .int (lo + (k : Int))
/-- range(k), k drawn or known: P of k -/
theorem wkG_range {R : Nat → Nat → Prop} (h : EvGA c tr ρ n fun ds m => ∃ k : Nat, ds = [.int (k : Int)] ∧ k ≤ 100000 ∧ R k m) : Wk c (iRng1 tr) ρ n fun N dd m => dd = upTo 0 ∧ N ≤ 100000 ∧ R N m := fun B H σ G S q => h B H σ G _ fun vs ds B1 H1 m s j r a => by
  obtain ⟨k, rfl, hk, hR⟩ := a
  cases r with
  | cons r1 r2 =>
    cases r2
    cases r1
    refine ⟨_, rfl, by omega, by omega, q _ k _ _ B1 H1 ⟨rfl, hk, hR⟩ s j (fun H' e i => ⟨fun lt => ?_, fun ek => ?_⟩) fun H' i x H'' B' n' lt e e' j' y => ?_⟩
    · exact walk_range.goes i H' (by omega) True.intro
    · have z := (walk_range (lo := 0) (n := (k : Int).toNat)).stops H' True.intro
      rw [ek]
      exact z
    · obtain ⟨eh, hx⟩ := (walk_range (lo := 0)).yields i H' x H'' (by omega) True.intro y
      subst eh
      subst hx
      exact ⟨B', Step.refl e', j', .int _⟩
theorem wk_range {k : Nat} (h : EvA c tr ρ [.int (k : Int)]) (hk : k ≤ 100000) : Wk c (iRng1 tr) ρ n (Just n k (upTo 0)) := fun B H σ G S q =>
  wkG_range (R := fun k' m => k' = k ∧ m = n) (h.g ⟨k, rfl, hk, rfl, rfl⟩) B H σ G S fun J N dd n2 B1 H1 hP => q J N dd n2 B1 H1 ⟨hP.2.2.1, hP.1, hP.2.2.2⟩
/-- range(lo, lo + k) -/
theorem wk_range2 {lo : Int} {k : Nat} {hi : Int} (h : EvA c tr ρ [.int lo, .int hi]) (eh : hi = lo + (k : Int) ∨ (hi ≤ lo ∧ k = 0)) (hk : k ≤ 100000) (hlo : -100000 ≤ lo ∧ lo ≤ 100000) (hhi : -100000 ≤ hi) : Wk c (iRng2 tr) ρ n (Just n k (upTo lo)) := fun B H σ G S q => h B H σ n G _ fun vs B1 H1 s j r => by
  cases r with
  | cons r1 r2 =>
    cases r2 with
    | cons r2 r3 =>
      cases r3
      cases r1
      cases r2
      have ek0 : (hi - lo).toNat = k := by omega
      refine ⟨lo, hi, rfl, ⟨by omega, by omega, by omega, by omega⟩, q _ k _ _ B1 H1 ⟨rfl, rfl, rfl⟩ s j (fun H' e i => ⟨fun lt => ?_, fun ek => ?_⟩) fun H' i x H'' B' n' lt e e' j' y => ?_⟩
      · exact walk_range.goes i H' (by omega) True.intro
      · have z := (walk_range (lo := lo) (n := (hi - lo).toNat)).stops H' True.intro
        rw [ek0] at z
        rw [ek, ek0]
        exact z
      · obtain ⟨e1, hx⟩ := (walk_range (lo := lo)).yields i H' x H'' (by omega) True.intro y
        subst e1
        subst hx
        exact ⟨B', Step.refl e', j', .int _⟩
def pairK (ds : List Da) (k : Nat) : Da := .tup [.int (k : Int), nth ds k]
theorem wk_enum (h : EvA c tr ρ [.lst ds]) : Wk c (iEnum c.K tr) ρ n (Just n ds.length (pairK ds)) := fun B H σ G S q => h B H σ n G _ fun vs B1 H1 s j r => by
  cases r with
  | cons r1 r2 =>
    cases r2
    cases r1 with
    | @lst a xs _ hb hr =>
      have sq : ∀ H', Ex B1 H' → SqL c.K H' a xs := fun H' e => SqL.of (e _ _ hb)
      refine ⟨a, xs, rfl, sq _ s.bh, q _ _ _ _ B1 H1 ⟨rfl, rfl, rfl⟩ s j (fun H' e k => ⟨fun lt => ?_, fun ek => ?_⟩) fun H' k x H'' B' n' lt e e' j' y => ?_⟩
      · exact (walk_enum (xs := xs)).goes k H' (by rw [hr.len]; exact lt) (sq H' e)
      · rw [ek, ← hr.len]
        exact walk_enum.stops H' (sq H' e)
      · obtain ⟨T, x1, y1, ev, nT, eh, g1, g2⟩ := (walk_enum (xs := xs)).yields k H' x H'' (by rw [hr.len]; exact lt) (sq H' (e.trans e')) y
        subst ev
        subst eh
        cases g1
        obtain ⟨d, hd, rd⟩ := hr.got g2
        have st : Step c B' H' (upd B' T (.tup [.int (k : Int), y1])) (upd H' T (.tup [.int (k : Int), y1])) := step_new e' nT
        refine ⟨_, st, J.up j' (Ex.new nT), ?_⟩
        unfold pairK
        rw [nth_at hd]
        exact .tup (SqT.of upd_same) (.cons (.int _) (.cons ((rd.up e).up st.eb) .nil))
/-! comprehensions -/
def wipeC (ρ : List Cell) : List Nat → List Cell
  | [] => ρ
  | v :: vs => (wipeC ρ vs).set v .no
theorem Good.clear {B H : Hp} {σ : L2.St} {v : Nat} (G : Good c B H σ ρ n) : Good c B H (σ.set v none) (ρ.set v .no) n := by
  refine ⟨G.e0, G.bh, G.eh, G.fr, G.fB, by rw [List.length_set, List.length_set, G.len], fun h => ?_, fun h => ?_, fun h => ?_, fun h1 h2 m1 m2 h3 h4 => ?_, fun h => ?_, fun h => ?_, G.jn⟩
  · rcases set_get h with ⟨_, e, _⟩ | ⟨ne, h⟩
    · cases e
    · obtain ⟨w, h1, h2⟩ := G.cell h
      exact ⟨w, by rw [set_off ne]; exact h1, h2⟩
  · rcases set_get h with ⟨_, e, _⟩ | ⟨ne, h⟩
    · cases e
    · obtain ⟨l, xs, h1, r⟩ := G.own h
      exact ⟨l, xs, by rw [set_off ne]; exact h1, r⟩
  · rcases set_get h with ⟨_, e, _⟩ | ⟨ne, h⟩
    · cases e
    · obtain ⟨l, h1, r⟩ := G.raw h
      exact ⟨l, by rw [set_off ne]; exact h1, r⟩
  · rcases set_get h1 with ⟨_, e, _⟩ | ⟨ne1, h1⟩
    · subst e
      cases m1
    · rcases set_get h2 with ⟨_, e, _⟩ | ⟨ne2, h2⟩
      · subst e
        cases m2
      · rw [set_off ne1] at h3
        rw [set_off ne2] at h4
        exact G.apart h1 h2 m1 m2 h3 h4
  · rcases set_get h with ⟨_, e, _⟩ | ⟨ne, h⟩
    · cases e
    · obtain ⟨p, h1, h2⟩ := G.wl h
      exact ⟨p, h1, by rw [set_off ne]; exact h2⟩
  · rcases set_get h with ⟨_, e, _⟩ | ⟨ne, h⟩
    · cases e
    · rw [set_off ne]
      exact G.fx h
theorem Good.wiped {B H : Hp} {σ : L2.St} (G : Good c B H σ ρ n) : ∀ vs : List Nat, Good c B H (wipe σ vs) (wipeC ρ vs) n
  | [] => G
  | v :: vs => (G.wiped vs).clear
/-- an object that nothing knows -/
theorem Good.obj {B H : Hp} {σ : L2.St} {p : Addr} {o : HO} (G : Good c B H σ ρ n) (hp : B p = none) (nf : ¬ c.F p) (h0 : c.H0 p = none) (no : ∀ (i : Nat) (x : Cell), ρ[i]? = some x → x.mine = true → σ[i]? ≠ some (some (V.ref p))) : Good c B (upd H p o) σ ρ n := by
  refine ⟨G.e0, fun a u h => ?_, fun a u f h => ?_, G.fr, G.fB, G.len, G.cell, fun h => ?_, fun h => ?_, G.apart, G.wl, G.fx, fun q f => ?_⟩
  · rw [upd_ne (fun z => by rw [z, hp] at h; cases h)]
    exact G.bh _ _ h
  · rw [upd_ne (fun z => by rw [z, h0] at h; cases h)]
    exact G.eh _ _ f h
  · obtain ⟨l, xs, h1, h2, h3, h4, h5, h6⟩ := G.own h
    have ne : l ≠ p := fun z => no _ _ h rfl (by rw [← z]; exact h1)
    exact ⟨l, xs, h1, h2, h3, h4, by rw [upd_ne ne]; exact h5, h6⟩
  · obtain ⟨l, h1, h2, h3, h4, h5⟩ := G.raw h
    have ne : l ≠ p := fun z => no _ _ h rfl (by rw [← z]; exact h1)
    exact ⟨l, h1, h2, h3, h4, by rw [upd_ne ne]; exact h5⟩
  · obtain ⟨a, b, k, h, r⟩ := G.jn q f
    exact ⟨a, b, k, by rw [upd_ne (fun z => nf (by rw [← z]; exact f))]; exact h, r⟩
def TgW (c : Ctx) (vs : List Nat) (g : TG) (d : Da) (ρ ρ' : List Cell) : Prop := ∀ B H σ n v, Good c B H σ ρ n → Rep c.K B v d → ∀ Q : L2.St → Hp → Prop, (∀ σ', Good c B H σ' ρ' n → wipe σ' vs = wipe σ vs → Q σ' H) → g v σ H Q
def TgsW (c : Ctx) (vs : List Nat) (g : TGs) (ds : List Da) (ρ ρ' : List Cell) : Prop := ∀ B H σ n ws, Good c B H σ ρ n → Reps c.K B ws ds → ∀ Q : L2.St → Hp → Prop, (∀ σ', Good c B H σ' ρ' n → wipe σ' vs = wipe σ vs → Q σ' H) → g ws σ H Q
theorem wipe_at {σ : L2.St} {j : Nat} : ∀ {vs : List Nat}, j < σ.length → (wipe σ vs)[j]? = if j ∈ vs then some none else σ[j]?
  | [], h => by simp [wipe]
  | v :: vs, h => by
    unfold wipe
    by_cases e : v = j
    · subst e
      rw [List.getElem?_set_self (by rw [wipe_length]; exact h)]
      simp
    · rw [List.getElem?_set_ne e, wipe_at (vs := vs) h]
      have e2 : ¬ j = v := fun z => e z.symm
      simp [e2]
theorem wipe_set {σ : L2.St} {i : Nat} {x : Option V} {vs : List Nat} (hi : i ∈ vs) : wipe (σ.set i x) vs = wipe σ vs := by
  refine List.ext_getElem? fun j => ?_
  by_cases h : j < σ.length
  · rw [wipe_at (by rw [List.length_set]; exact h), wipe_at h]
    by_cases q : j ∈ vs
    · rw [if_pos q, if_pos q]
    · rw [if_neg q, if_neg q, set_off fun z => q (by rw [z]; exact hi)]
  · rw [List.getElem?_eq_none (by rw [wipe_length, List.length_set]; omega), List.getElem?_eq_none (by rw [wipe_length]; omega)]
theorem wipe_wipe {σ : L2.St} {vs : List Nat} : wipe (wipe σ vs) vs = wipe σ vs := by
  refine List.ext_getElem? fun j => ?_
  by_cases h : j < σ.length
  · rw [wipe_at (by rw [wipe_length]; exact h), wipe_at h]
    by_cases q : j ∈ vs
    · rw [if_pos q, if_pos q]
    · rw [if_neg q, if_neg q]
  · rw [List.getElem?_eq_none (by rw [wipe_length, wipe_length]; omega), List.getElem?_eq_none (by rw [wipe_length]; omega)]
theorem tw_name {vs : List Nat} (h : i ∈ vs) : TgW c vs (gName i) d ρ (ρ.set i (.da d)) := fun B H σ n v G r Q q => q _ (G.set r) (wipe_set h)
theorem tws_nil {vs : List Nat} : TgsW c vs gNil [] ρ ρ := fun B H σ n ws G r Q q => by
  cases r
  exact ⟨rfl, q _ G rfl⟩
theorem tws_cons {vs : List Nat} {gs : TGs} {ρ1 ρ2 : List Cell} (h : TgW c vs g d ρ ρ1) (h2 : TgsW c vs gs ds ρ1 ρ2) : TgsW c vs (gCons g gs) (d :: ds) ρ ρ2 := fun B H σ n ws G r Q q => by
  cases r with
  | cons r1 r2 => exact ⟨_, _, rfl, h B H σ n _ G r1 _ fun σ1 G1 w1 => h2 B H σ1 n _ G1 r2 Q fun σ2 G2 w2 => q σ2 G2 (w2.trans w1)⟩
theorem tw_tup {vs : List Nat} {gs : TGs} {ρ' : List Cell} {k : Nat} (hk : ds.length = k) (h : TgsW c vs gs ds ρ ρ') : TgW c vs (gTup c.K k gs) (.tup ds) ρ ρ' := fun B H σ n v G r Q q => by
  cases r with
  | tup hs hr => exact ⟨_, _, rfl, Evl.ex_t G.bh hs, by rw [hr.len]; exact hk, h B H σ n _ G hr Q q⟩
/-- a new list of one's own -/
def EvO (c : Ctx) (te : TE) (ρ : List Cell) (n : Nat) (R : List Da → Nat → Prop) : Prop := ∀ B H σ, Good c B H σ ρ n → ∀ Q : VK, (∀ p xs ds B2 H2 n2, H p = none → Step c B H B2 H2 → c.J n2 H2 → B2 p = none → H2 p = some (.lst xs) → Reps c.K B2 xs ds → R ds n2 → Q (.ref p) H2) → te σ H Q
theorem EvO.fz {R' : List Da → Nat → Prop} (h : EvO c te ρ n R') (k : ∀ ds m, R' ds m → R (.lst ds) m) : EvG c te ρ n R := fun B H σ G Q q => h B H σ G Q fun p xs ds B2 H2 n2 hp s j bp hx rx r => by
  have e5 : Ex B2 (upd B2 p (.lst xs)) := Ex.new bp
  refine q _ _ (upd B2 p (.lst xs)) H2 n2 ⟨s.eb.trans e5, fun a o e => ?_, s.eh, fun a h1 h2 => ?_⟩ j (.lst upd_same (rx.up e5)) (k ds n2 r)
  · by_cases z : a = p
    · subst z
      rw [upd_same] at e
      cases e
      exact hx
    · rw [upd_ne z] at e
      exact s.bh a o e
  · have z : a ≠ p := fun z => h2 (by rw [z]; exact hp)
    rw [upd_ne z]
    exact s.fr a h1 h2
theorem Good.takeNew {B H : Hp} {σ : L2.St} {p : Addr} {o : HO} {x : Cell} {B2 H2 : Hp} {n2 : Nat} (G : Good c B H σ ρ n) (hp : H p = none) (s : Step c B H B2 H2) (j : c.J n2 H2) (bp : B2 p = none) (ho : H2 p = some o) (hx : x = .raw o ∨ ∃ xs ds, x = .own ds ∧ o = .lst xs ∧ Reps c.K B2 xs ds) : Good c B2 H2 (σ.set i (some (.ref p))) (ρ.set i x) n2 := by
  have G2 := G.step s j
  have nf : ¬ c.F p := fun f => jnF G.jn p f hp
  have h0 : c.H0 p = none := by
    cases q : c.H0 p with
    | none => rfl
    | some o =>
      rw [G.eh p o nf q] at hp
      cases hp
  have ne : ∀ {k : Nat} {y : Cell} {l : Addr}, ρ[k]? = some y → y.mine = true → σ[k]? = some (some (.ref l)) → l ≠ p := fun {k y l} h1 m h2 z => by
    obtain ⟨l', o', g1, _, _, _, g5⟩ := G.addr h1 m
    rw [g1] at h2
    cases h2
    rw [z, hp] at g5
    cases g5
  refine ⟨G2.e0, G2.bh, G2.eh, G2.fr, G2.fB, by rw [List.length_set, List.length_set, G2.len], fun h => ?_, fun h => ?_, fun h => ?_, fun h1 h2 m1 m2 h3 h4 => ?_, fun h => ?_, fun h => ?_, G2.jn⟩
  · rcases set_get h with ⟨_, e, _⟩ | ⟨nq, h⟩
    · rcases hx with z | ⟨_, _, z, _⟩
      · rw [z] at e
        cases e
      · rw [z] at e
        cases e
    · obtain ⟨w, h1, h2⟩ := G2.cell h
      exact ⟨w, by rw [set_off nq]; exact h1, h2⟩
  · rcases set_get h with ⟨rfl, e, hl⟩ | ⟨nq, h⟩
    · rcases hx with z | ⟨xs, ds, z, z2, r⟩
      · rw [z] at e
        cases e
      · rw [z] at e
        cases e
        exact ⟨p, xs, set_at (by rw [G2.len]; exact hl), bp, nf, h0, by rw [ho, z2], r⟩
    · obtain ⟨l, ys, h1, r⟩ := G2.own h
      exact ⟨l, ys, by rw [set_off nq]; exact h1, r⟩
  · rcases set_get h with ⟨rfl, e, hl⟩ | ⟨nq, h⟩
    · rcases hx with z | ⟨xs, ds, z, z2, r⟩
      · rw [z] at e
        cases e
        exact ⟨p, set_at (by rw [G2.len]; exact hl), bp, nf, h0, ho⟩
      · rw [z] at e
        cases e
    · obtain ⟨l, h1, r⟩ := G2.raw h
      exact ⟨l, by rw [set_off nq]; exact h1, r⟩
  · rcases set_get h1 with ⟨e1, _, hl⟩ | ⟨n1, h1⟩
    · rcases set_get h2 with ⟨e2, _, _⟩ | ⟨n2, h2⟩
      · rw [e1, e2]
      · rw [e1, set_at (by rw [G.len]; exact hl)] at h3
        rw [set_off n2] at h4
        cases h3
        exact absurd rfl (ne h2 m2 h4)
    · rcases set_get h2 with ⟨e2, _, hl⟩ | ⟨n2, h2⟩
      · rw [e2, set_at (by rw [G.len]; exact hl)] at h4
        rw [set_off n1] at h3
        cases h4
        exact absurd rfl (ne h1 m1 h3)
      · rw [set_off n1] at h3
        rw [set_off n2] at h4
        exact G.apart h1 h2 m1 m2 h3 h4
  · rcases set_get h with ⟨_, e, _⟩ | ⟨nq, h⟩
    · rcases hx with z | ⟨_, _, z, _⟩
      · rw [z] at e
        cases e
      · rw [z] at e
        cases e
    · obtain ⟨q, h1, h2⟩ := G2.wl h
      exact ⟨q, h1, by rw [set_off nq]; exact h2⟩
  · rcases set_get h with ⟨_, e, _⟩ | ⟨nq, h⟩
    · rcases hx with z | ⟨_, _, z, _⟩
      · rw [z] at e
        cases e
      · rw [z] at e
        cases e
    · rw [set_off nq]
      exact G2.fx h
theorem Good.takeOwn {B H : Hp} {σ : L2.St} {p : Addr} {xs : List V} {B2 H2 : Hp} {n2 : Nat} (G : Good c B H σ ρ n) (hp : H p = none) (s : Step c B H B2 H2) (j : c.J n2 H2) (bp : B2 p = none) (hx : H2 p = some (.lst xs)) (r : Reps c.K B2 xs ds) : Good c B2 H2 (σ.set i (some (.ref p))) (ρ.set i (.own ds)) n2 := G.takeNew hp s j bp hx (.inr ⟨xs, ds, rfl, rfl, r⟩)
theorem s_setO {R' : List Da → Nat → Prop} (h : EvO c te ρ n R') (k : ∀ ds m, R' ds m → E.nx (ρ.set i (.own ds)) m) : SvG c (tAsg te (gName i)) ρ n E := fun B H σ D G K =>
  h B H σ G _ fun p xs ds B2 H2 n2 hp s j bp hx rx r => K.nx s.eb (G.takeOwn hp s j bp hx rx) (k ds n2 r)
theorem o_lcP {wi : TI} {vs : List Nat} {R : List Da → Nat → Prop} {P : Nat → (Nat → Da) → Nat → Prop} (hw : Wk c wi ρ n P)
    (hs : ∀ N dd n2, P N dd n2 → N ≤ 100000 ∧ ∃ W : Nat → List Da → Nat → Prop, W 0 [] n2 ∧
      (∀ k acc n', k < N → W k acc n' → ∃ ρ2 b, TgW c vs g (dd k) (wipeC ρ vs) ρ2 ∧ EvT c tt ρ2 b ∧ (b = true → EvG c te ρ2 n' fun d m => W (k + 1) (acc ++ [d]) m) ∧ (b = false → W (k + 1) acc n')) ∧
      ∀ acc n', W N acc n' → R acc n') : EvO c (tLc wi g tt te vs) ρ n R := fun B H σ G Q q => by
  refine hw B H σ G _ fun J N dd n2 B1 H1 hP s j hgo hy => ?_
  obtain ⟨hN, W, h0, hs, hd⟩ := hs N dd n2 hP
  intro Dl hD
  have G1 := (G.step s j).wiped vs
  have bD : B1 Dl = none := Evl.fresh_back s.bh hD
  have nF : ¬ c.F Dl := fun f => jnF j Dl f hD
  have zD : c.H0 Dl = none := by
    cases e : c.H0 Dl with
    | none => rfl
    | some o =>
      rw [G1.eh Dl o nF e] at hD
      cases hD
  have noD : ∀ (i : Nat) (x : Cell), (wipeC ρ vs)[i]? = some x → x.mine = true → (wipe σ vs)[i]? ≠ some (some (V.ref Dl)) := fun i x h mm z => by
    obtain ⟨l, xs, h1, _, _, _, h5⟩ := G1.addr h mm
    rw [h1] at z
    cases z
    rw [hD] at h5
    cases h5
  refine ⟨fun k m H' => m = N - k ∧ k ≤ N ∧ ∃ B' acc xs n', Step c B1 H1 B' H' ∧ Good c B' H' (wipe σ vs) (wipeC ρ vs) n' ∧ H' Dl = some (.lst xs) ∧ Reps c.K B' xs acc ∧ B' Dl = none ∧ acc.length ≤ k ∧ W k acc n',
    ⟨N, by omega, Nat.zero_le _, B1, [], [], n2, ⟨Ex.refl _, s.bh.trans (Ex.new hD), ExF.of (Ex.new hD), fun _ h _ => h⟩, G1.obj bD nF zD noD, upd_same, .nil, bD, Nat.zero_le _, h0⟩, ?_⟩
  rintro k m H' ⟨rfl, hk, B', acc, xs, n', st, G', hx, rx, bD', hl, hW⟩
  by_cases lt : k < N
  · refine .inr ⟨(hgo H' (st.eb.trans G'.bh) k).1 lt, fun H2 => ∃ B2 acc2 xs2 n3, Step c B1 H1 B2 H2 ∧ Good c B2 H2 (wipe σ vs) (wipeC ρ vs) n3 ∧ H2 Dl = some (.lst xs2) ∧ Reps c.K B2 xs2 acc2 ∧ B2 Dl = none ∧ acc2.length ≤ k + 1 ∧ W (k + 1) acc2 n3,
      fun H2 ⟨B2, acc2, xs2, n3, r⟩ => ⟨N - (k + 1), by omega, rfl, lt, B2, acc2, xs2, n3, r⟩, fun x H'' y => ?_⟩
    obtain ⟨B'', s2, j2, rd⟩ := hy H' k x H'' B' n' lt st.eb G'.bh G'.jn y
    have G2 := G'.step s2 j2
    obtain ⟨ρ2, b, hg, ht, h1, h2⟩ := hs k acc n' lt hW
    have dl2 : H'' Dl = some (.lst xs) := s2.eh Dl _ nF hx
    have bd2 : B'' Dl = none := s2.fr Dl bD' (by rw [hx]; exact fun z => nomatch z)
    refine hg B'' H'' (wipe σ vs) n' x G2 rd _ fun σ3 G3 w3 => ⟨w3.trans wipe_wipe, ht B'' H'' σ3 n' G3 _ fun B3 H3 s3 j3 => ?_⟩
    have dl3 : H3 Dl = some (.lst xs) := s3.eh Dl _ nF dl2
    have bd3 : B3 Dl = none := s3.fr Dl bd2 (by rw [dl2]; exact fun z => nomatch z)
    have st3 := (st.trans (jnF G'.jn) s2).trans (jnF j2) s3
    have G4 := G2.step s3 j3
    cases b with
    | false =>
      show ∃ _, _
      exact ⟨B3, acc, xs, n', st3, G4, dl3, rx.up (s2.eb.trans s3.eb), bd3, by omega, h2 rfl⟩
    | true =>
      refine h1 rfl B3 H3 σ3 (G3.step s3 j3) _ fun v d B4 H4 n4 s4 j4 rv a4 => ?_
      have dl4 : H4 Dl = some (.lst xs) := s4.eh Dl _ nF dl3
      have bd4 : B4 Dl = none := s4.fr Dl bd3 (by rw [dl3]; exact fun z => nomatch z)
      have st4 := st3.trans (jnF j3) s4
      have G5 := G4.step s4 j4
      refine ⟨xs, dl4, Evl.sz_lt (by rw [rx.len]; omega), B4, acc ++ [d], xs ++ [v], n4, ⟨st4.eb, fun a o e => ?_, fun a o f e => ?_, st4.fr⟩, G5.obj bd4 nF zD noD, upd_same, (rx.up ((s2.eb.trans s3.eb).trans s4.eb)).app (.cons rv .nil), bd4, ?_, a4⟩
      · rw [upd_ne (fun z => by rw [z, bd4] at e; cases e)]
        exact st4.bh a o e
      · rw [upd_ne (fun z => by rw [z, hD] at e; cases e)]
        exact st4.eh a o f e
      · rw [List.length_append]
        show acc.length + 1 ≤ k + 1
        omega
  · have ek : k = N := by omega
    refine .inl ⟨(hgo H' (st.eb.trans G'.bh) k).2 ek, ?_⟩
    have hn : H Dl = none := by
      cases e : H Dl with
      | none => rfl
      | some o =>
        rw [s.eh Dl o nF e] at hD
        cases hD
    exact q Dl xs acc B' H' n' hn (s.trans (jnF j) st) G'.jn bD' hx rx (hd acc n' (by rw [← ek]; exact hW))
end
/-! ### a def that changes nothing, by its body -/
def ini (N : List Str) (ds : List Da) : List Cell := ds.map .da ++ List.replicate (N.length - ds.length) .no
theorem run_R {K : PySem.W.Frag} {S : List Da → Da → Prop} {N : List Str} {t : TS} {vs : List V} {H : Hp} {Q : VK} {E : XK} (h : spR K S vs H Q E) (hN : ∀ ds d, S ds d → ds.length ≤ N.length)
    (r : ∀ (B0 H0 : Hp) (ds : List Da) (d : Da), S ds d → SvG ⟨K, none, B0, H0⟩ t (ini N ds) 0 { nx := fun _ _ => d = .non, rt := fun e _ => e = d }) : t { nx := fun _ H' => Q .non H', rt := Q } (L2.start N vs) H := by
  obtain ⟨B, ds, d, bh, rv, hS, k⟩ := h
  have hl := hN ds d hS
  have nf : ∀ p, ¬ (⟨K, none, B, H⟩ : Ctx).F p := fun p z => nomatch (show (none : Option Addr) = some p from z)
  have cellAt : ∀ {i : Nat} {x : Cell}, (ini N ds)[i]? = some x → x = .no ∨ ∃ d, x = .da d ∧ ds[i]? = some d := fun {i x} e => by
    unfold ini at e
    by_cases lt : i < (ds.map Cell.da).length
    · rw [List.getElem?_append_left lt, List.getElem?_map] at e
      obtain ⟨y, e1, e2⟩ := Option.map_eq_some_iff.mp e
      exact .inr ⟨y, e2.symm, e1⟩
    · rw [List.getElem?_append_right (by omega)] at e
      exact .inl (List.eq_of_mem_replicate (List.mem_of_getElem? e))
  refine r B H ds d hS B H (L2.start N vs) _ ⟨Ex.refl _, bh, ExF.refl _ _, fun _ q _ => q, fun p f => absurd f (nf p), ?_, fun e => ?_, fun e => ?_, fun e => ?_, fun e _ m _ _ _ => ?_, fun e => ?_, fun e => ?_, fun p f => absurd f (nf p)⟩
    ⟨fun e G z => ?_, fun _ _ z => z.elim, fun _ _ z => z.elim, fun e G rv z => ?_⟩
  · unfold L2.start ini
    rw [List.length_append, List.length_append, List.length_map, List.length_map, List.length_replicate, List.length_replicate, rv.len]
  · rcases cellAt e with e | ⟨d', e1, e2⟩
    · cases e
    · cases e1
      obtain ⟨v, hv, r2⟩ := rv.get e2
      refine ⟨v, ?_, r2⟩
      unfold L2.start
      rw [List.getElem?_append_left (by rw [List.length_map]; exact (List.getElem?_eq_some_iff.mp hv).1), List.getElem?_map, hv]
      rfl
  · rcases cellAt e with e | ⟨d', e1, e2⟩
    · cases e
    · cases e1
  · rcases cellAt e with e | ⟨d', e1, e2⟩
    · cases e
    · cases e1
  · rcases cellAt e with z | ⟨d', z, _⟩
    · subst z
      cases m
    · subst z
      cases m
  · rcases cellAt e with e | ⟨d', e1, e2⟩
    · cases e
    · cases e1
  · rcases cellAt e with e | ⟨d', e1, e2⟩
    · cases e
    · cases e1
  · have z : d = .non := z
    subst z
    exact k .non _ _ ⟨G.e0, G.bh, fun a o h => G.eh a o (nf a) h, G.fr⟩ .non
  · have z : _ = d := z
    subst z
    exact k _ _ _ ⟨G.e0, G.bh, fun a o h => G.eh a o (nf a) h, G.fr⟩ rv
end Ly


set_option Elab.async false
set_option autoImplicit false
set_option linter.all false
set_option maxRecDepth 100000
set_option maxHeartbeats 4000000
namespace Ly
open PySem PySem.Spec PyProof.Rows L2
open Evl (Ex)
/-! ### defs that draw from a well, their first argument -/
def wellAt (p : Addr) (n : Nat) (H : Hp) : Prop := ∃ a b k : Int, H p = some (.lst [.int a, .int b, .int k]) ∧ Well a b k ∧ k ≤ (n : Int)
/-- S: what is asked of the other arguments and of how much is drawn so far; R: of the answer, and how much is drawn then -/
def spW (K : PySem.W.Frag) (S : List Da → Nat → Prop) (R : List Da → Nat → Da → Nat → Prop) : Sp := fun vs H Q _ => ∃ (p : Addr) (ws : List V) (B : Hp) (ds : List Da) (n : Nat), vs = .ref p :: ws ∧ Ex B H ∧ B p = none ∧ wellAt p n H ∧ Reps K B ws ds ∧ S ds n ∧
  ∀ v d B2 H2 n2, Step ⟨K, some p, B, H⟩ B H B2 H2 → wellAt p n2 H2 → Rep K B2 v d → R ds n d n2 → Q v H2
theorem Ctx.J.well {c : Ctx} {p : Addr} {n : Nat} {H : Hp} (j : c.J n H) (h : c.wp = some p) : wellAt p n H := j p h
theorem well_J {c : Ctx} {p : Addr} {n : Nat} {H : Hp} (w : wellAt p n H) (h : c.wp = some p) : c.J n H := fun q e => by
  have z : p = q := Option.some.inj (h.symm.trans e)
  subst z
  exact w
section
variable {c : Ctx} {ρ : List Cell} {n i : Nat} {te ta tb : TE} {tr : TA} {d : Da} {ds es : List Da} {R : Da → Nat → Prop}
theorem g_callW {S : List Da → Nat → Prop} {R' : List Da → Nat → Da → Nat → Prop} {Ra : List Da → Nat → Prop} {E : XK} (hi : ρ[i]? = some .wl) (h : EvGA c tr ρ n Ra) (hS : ∀ ds m, Ra ds m → S ds m ∧ ∀ d m2, R' ds m d m2 → R d m2) :
    EvG c (tCall (spW c.K S R') [] E (tCons (tVar i) tr)) ρ n R := fun B H σ G Q q => by
  obtain ⟨p, hw, hp⟩ := G.wl hi
  refine ⟨_, hp, h B H σ G _ fun vs ds B1 H1 n1 s1 j1 r1 a1 => ?_⟩
  have G1 := G.step s1 j1
  obtain ⟨h1, h2⟩ := hS ds n1 a1
  show spW c.K S R' ((.ref p :: vs) ++ []) H1 Q E
  rw [List.append_nil]
  refine ⟨p, vs, B1, ds, n1, rfl, s1.bh, G1.fB p hw, j1.well hw, r1, h1, fun v d B2 H2 n2 s2 w2 rv a2 => ?_⟩
  have s2' : Step c B1 H1 B2 H2 := ⟨s2.eb, s2.bh, fun a o f e => s2.eh a o (fun z => f (hw.trans z)) e, s2.fr⟩
  exact q v d B2 H2 n2 (s1.trans (jnF j1) s2') (well_J w2 hw) rv (h2 d n2 a2)
/-! bodies -/
def iniW (N : List Str) (ds : List Da) : List Cell := .wl :: (ds.map .da ++ List.replicate (N.length - (ds.length + 1)) .no)
theorem run_W {K : PySem.W.Frag} {S : List Da → Nat → Prop} {R' : List Da → Nat → Da → Nat → Prop} {N : List Str} {t : TS} {vs : List V} {H : Hp} {Q : VK} {E : XK} (h : spW K S R' vs H Q E) (hN : ∀ ds n, S ds n → ds.length + 1 ≤ N.length)
    (r : ∀ (p : Addr) (B0 H0 : Hp) (ds : List Da) (n : Nat), S ds n → SvG ⟨K, some p, B0, H0⟩ t (iniW N ds) n { nx := fun _ m => R' ds n .non m, rt := fun e m => R' ds n e m }) : t { nx := fun _ H' => Q .non H', rt := Q } (L2.start N vs) H := by
  obtain ⟨p, ws, B, ds, n, rfl, bh, bp, w, rv, hS, k⟩ := h
  have hl := hN ds n hS
  have cellAt : ∀ {i : Nat} {x : Cell}, (iniW N ds)[i]? = some x → (i = 0 ∧ x = .wl) ∨ x = .no ∨ ∃ j d, i = j + 1 ∧ x = .da d ∧ ds[j]? = some d := fun {i x} e => by
    unfold iniW at e
    cases i with
    | zero =>
      cases e
      exact .inl ⟨rfl, rfl⟩
    | succ i =>
      rw [List.getElem?_cons_succ] at e
      by_cases lt : i < (ds.map Cell.da).length
      · rw [List.getElem?_append_left lt, List.getElem?_map] at e
        obtain ⟨y, e1, e2⟩ := Option.map_eq_some_iff.mp e
        exact .inr (.inr ⟨i, y, rfl, e2.symm, e1⟩)
      · rw [List.getElem?_append_right (by omega)] at e
        exact .inr (.inl (List.eq_of_mem_replicate (List.mem_of_getElem? e)))
  have c0 : (⟨K, some p, B, H⟩ : Ctx).J n H := well_J w rfl
  refine r p B H ds n hS B H (L2.start N (.ref p :: ws)) _ ⟨Ex.refl _, bh, ExF.refl _ _, fun _ q _ => q, fun q f => ?_, ?_, fun e => ?_, fun e => ?_, fun e => ?_, fun e _ m _ _ _ => ?_, fun e => ?_, fun e => ?_, c0⟩
    ⟨fun e G z => ?_, fun _ _ z => z.elim, fun _ _ z => z.elim, fun e G rv z => ?_⟩
  · have z : p = q := Option.some.inj f
    rw [← z]
    exact bp
  · unfold L2.start iniW
    simp only [List.length_append, List.length_cons, List.length_map, List.length_replicate, rv.len]
    omega
  · rcases cellAt e with ⟨_, e⟩ | e | ⟨j, d', e0, e1, e2⟩
    · cases e
    · cases e
    · cases e1
      obtain ⟨v, hv, r2⟩ := rv.get e2
      refine ⟨v, ?_, r2⟩
      unfold L2.start
      rw [e0, List.getElem?_append_left (by rw [List.length_map, List.length_cons]; exact Nat.succ_lt_succ (List.getElem?_eq_some_iff.mp hv).1), List.getElem?_map, List.getElem?_cons_succ, hv]
      rfl
  · rcases cellAt e with ⟨_, e⟩ | e | ⟨j, d', e0, e1, e2⟩
    · cases e
    · cases e
    · cases e1
  · rcases cellAt e with ⟨_, e⟩ | e | ⟨j, d', e0, e1, e2⟩
    · cases e
    · cases e
    · cases e1
  · rcases cellAt e with ⟨_, z⟩ | z | ⟨j, d', _, z, _⟩
    · subst z
      cases m
    · subst z
      cases m
    · subst z
      cases m
  · rcases cellAt e with ⟨e0, e⟩ | e | ⟨j, d', e0, e1, e2⟩
    · rw [e0]
      exact ⟨p, rfl, rfl⟩
    · cases e
    · cases e1
  · rcases cellAt e with ⟨_, e⟩ | e | ⟨j, d', e0, e1, e2⟩
    · cases e
    · cases e
    · cases e1
  · exact k .non .non _ _ _ ⟨G.e0, G.bh, G.eh, G.fr⟩ (G.jn.well rfl) .non z
  · exact k _ _ _ _ _ ⟨G.e0, G.bh, G.eh, G.fr⟩ (G.jn.well rfl) rv z
/-! ### lists and tuples of others, parts of them -/
theorem o_lst {Ra : List Da → Nat → Prop} (h : EvGA c tr ρ n Ra) (hl : ∀ ds m, Ra ds m → ds.length ≤ 100000) : EvO c (tLst tr) ρ n Ra := fun B H σ G Q q => h B H σ G _ fun vs ds B1 H1 m s j r a =>
  ⟨by rw [r.len]; exact big (hl ds m a), fun p hp => by
    have bp : B1 p = none := Evl.fresh_back s.bh hp
    have h0 : H p = none := by
      cases e : H p with
      | none => rfl
      | some o =>
        by_cases f : c.F p
        · exact absurd hp (jnF j p f)
        · rw [s.eh p o f e] at hp
          cases hp
    exact q p vs ds B1 (upd H1 p (.lst vs)) m h0 ⟨s.eb, s.bh.trans (Ex.new hp), s.eh.trans (ExF.of (Ex.new hp)), s.fr⟩ (J.up j (Ex.new hp)) bp upd_same r a⟩
/-- what gives a new list of known items -/
def NewL (c : Ctx) (te : TE) (ρ : List Cell) (es : List Da) : Prop := ∀ B H σ n, Good c B H σ ρ n → ∀ Q : VK, (∀ B1 H1, Step c B H B1 H1 → c.J n H1 → ∀ xs, Reps c.K B1 xs es → ∀ p, H1 p = none → Q (.ref p) (upd H1 p (.lst xs))) → te σ H Q
theorem NewL.own (h : NewL c te ρ es) : EvO c te ρ n fun ds m => ds = es ∧ m = n := fun B H σ G Q q => h B H σ n G _ fun B1 H1 s j xs r p hp => by
  have bp : B1 p = none := Evl.fresh_back s.bh hp
  have h0 : H p = none := by
    cases e : H p with
    | none => rfl
    | some o =>
      by_cases f : c.F p
      · exact absurd hp (jnF j p f)
      · rw [s.eh p o f e] at hp
        cases hp
  exact q p xs es B1 (upd H1 p (.lst xs)) n h0 ⟨s.eb, s.bh.trans (Ex.new hp), s.eh.trans (ExF.of (Ex.new hp)), s.fr⟩ (J.up j (Ex.new hp)) bp upd_same r ⟨rfl, rfl⟩
theorem NewL.da (h : NewL c te ρ es) : EvD c te ρ (.lst es) := fun B H σ n G Q q => h B H σ n G _ fun B1 H1 s j xs r p hp =>
  q _ _ _ (s.trans (jnF j) (step_new s.bh hp)) (J.up j (Ex.new hp)) (.lst upd_same (r.up (step_new (c := c) s.bh hp).eb))
theorem nl_cat (ha : EvD c ta ρ (.lst ds)) (hb : EvD c tb ρ (.lst es)) (hl : ds.length + es.length ≤ 100000) : NewL c (tOp rCat ta tb) ρ (ds ++ es) := fun B H σ n G Q q =>
  ha B H σ n G _ fun v B1 H1 s1 j1 r1 => hb B1 H1 σ n (G.step s1 j1) _ fun w B2 H2 s2 j2 r2 => by
    cases r1 with
    | lst hs hr =>
      cases r2 with
      | lst hs2 hr2 => exact ⟨_, _, _, _, rfl, rfl, s2.bh _ _ (s2.eb _ _ hs), s2.bh _ _ hs2, by rw [hr.len, hr2.len]; exact big hl, fun p hp => q B2 H2 (s1.trans (jnF j1) s2) j2 _ ((hr.up s2.eb).app hr2) p hp⟩
theorem nl_list (ha : EvD c ta ρ (.lst ds)) : NewL c (tCB (fun xs H Q => ∃ p ys, xs = [.ref p] ∧ (SqL c.K H p ys ∨ SqT c.K H p ys) ∧ ∀ l, H l = none → Q (.ref l) (upd H l (.lst ys))) (tCons ta tNil)) ρ ds := fun B H σ n G Q q =>
  ha B H σ n G _ fun v B1 H1 s1 j1 r1 => by
    cases r1 with
    | lst hs hr => exact ⟨_, _, rfl, .inl (SqL.of (s1.bh _ _ hs)), fun l hl => q B1 H1 s1 j1 _ hr l hl⟩
theorem nl_listT (ha : EvD c ta ρ (.tup ds)) : NewL c (tCB (fun xs H Q => ∃ p ys, xs = [.ref p] ∧ (SqL c.K H p ys ∨ SqT c.K H p ys) ∧ ∀ l, H l = none → Q (.ref l) (upd H l (.lst ys))) (tCons ta tNil)) ρ ds := fun B H σ n G Q q =>
  ha B H σ n G _ fun v B1 H1 s1 j1 r1 => by
    cases r1 with
    | tup hs hr => exact ⟨_, _, rfl, .inr (Evl.ex_t s1.bh hs), fun l hl => q B1 H1 s1 j1 _ hr l hl⟩
abbrev rTupOf (K : PySem.W.Frag) : List V → Hp → VK → Prop := fun xs H Q => ∃ p ys, xs = [.ref p] ∧ ((SqL K H p ys ∧ ∀ l, H l = none → Q (.ref l) (upd H l (.tup ys))) ∨ (SqT K H p ys ∧ Q (.ref p) H))
theorem d_tuple (ha : EvD c ta ρ (.lst ds)) : EvD c (tCB (rTupOf c.K) (tCons ta tNil)) ρ (.tup ds) := fun B H σ n G Q q =>
  ha B H σ n G _ fun v B1 H1 s1 j1 r1 => by
    cases r1 with
    | lst hs hr => exact ⟨_, _, rfl, .inl ⟨SqL.of (s1.bh _ _ hs), fun l hl => q _ _ _ (s1.trans (jnF j1) (step_new s1.bh hl)) (J.up j1 (Ex.new hl)) (.tup (SqT.of upd_same) (hr.up (step_new (c := c) s1.bh hl).eb))⟩⟩
theorem g_tuple {R' : Da → Nat → Prop} (ha : EvG c ta ρ n R') (hk : ∀ d m, R' d m → ∃ ds, d = .lst ds ∧ R (.tup ds) m) : EvG c (tCB (rTupOf c.K) (tCons ta tNil)) ρ n R := fun B H σ G Q q =>
  ha B H σ G _ fun v d B1 H1 m s1 j1 r1 a1 => by
    obtain ⟨ds, rfl, a2⟩ := hk d m a1
    cases r1 with
    | lst hs hr => exact ⟨_, _, rfl, .inl ⟨SqL.of (s1.bh _ _ hs), fun l hl => q _ _ _ _ _ (s1.trans (jnF j1) (step_new s1.bh hl)) (J.up j1 (Ex.new hl)) (.tup (SqT.of upd_same) (hr.up (step_new (c := c) s1.bh hl).eb)) a2⟩⟩
theorem d_tupleT (ha : EvD c ta ρ (.tup ds)) : EvD c (tCB (rTupOf c.K) (tCons ta tNil)) ρ (.tup ds) := fun B H σ n G Q q =>
  ha B H σ n G _ fun v B1 H1 s1 j1 r1 => by
    cases r1 with
    | tup hs hr => exact ⟨_, _, rfl, .inr ⟨Evl.ex_t s1.bh hs, q _ _ _ s1 j1 (.tup hs hr)⟩⟩
/-! ### own lists read in place -/
theorem d_ownIx {j : Int} (h : ρ[i]? = some (.own ds)) (hb : EvD c tb ρ (.int j)) (ha : atI ds j = some d) : EvD c (tOp (rIxL c.K) (tVar i) tb) ρ d := fun B H σ n G Q q => by
  obtain ⟨l, xs, g1, _⟩ := G.own h
  refine ⟨_, g1, hb B H σ n G _ fun v B1 H1 s1 j1 r1 => ?_⟩
  have G1 := G.step s1 j1
  obtain ⟨l', ys, k1, k2, k3, k4, k5, k6⟩ := G1.own h
  rw [g1] at k1
  cases k1
  cases r1
  obtain ⟨u, hu, ru⟩ := at_map k6 ha
  exact ⟨_, _, j, u, rfl, rfl, SqL.of k5, hu, q u B1 H1 s1 j1 ru⟩
theorem d_ownLen (h : ρ[i]? = some (.own ds)) : EvD c (tCB (fun xs H Q => ∃ p ys, xs = [.ref p] ∧ (SqL c.K H p ys ∨ SqT c.K H p ys) ∧ Q (.int ys.length) H) (tCons (tVar i) tNil)) ρ (.int (ds.length : Int)) := fun B H σ n G Q q => by
  obtain ⟨l, xs, g1, g2, g3, g4, g5, g6⟩ := G.own h
  refine ⟨_, g1, l, xs, rfl, .inl (SqL.of g5), ?_⟩
  rw [g6.len]
  exact q _ B H (Step.refl G.bh) G.jn (.int _)
/-- tuple(xs), xs a list of one's own -/
theorem d_ownTuple (h : ρ[i]? = some (.own ds)) : EvD c (tCB (rTupOf c.K) (tCons (tVar i) tNil)) ρ (.tup ds) := fun B H σ n G Q q => by
  obtain ⟨l, xs, g1, g2, g3, g4, g5, g6⟩ := G.own h
  exact ⟨_, g1, l, xs, rfl, .inl ⟨SqL.of g5, fun p hp => q _ _ _ (step_new G.bh hp) (J.up G.jn (Ex.new hp)) (.tup (SqT.of upd_same) (g6.up (step_new (c := c) G.bh hp).eb))⟩⟩
/-- xs[j] = e, xs a list of one's own; e, then j -/
theorem s_setItem {E : SE} {Rv : Da → Nat → Prop} (h : ρ[i]? = some (.own ds)) (hv : EvG c te ρ n Rv) (hj : ∀ d m, Rv d m → EvG c tb ρ m fun e m2 => ∃ j : Nat, e = .int (j : Int) ∧ j < ds.length ∧ E.nx (ρ.set i (.own (ds.set j d))) m2) :
    SvG c (tAsg te (gSub (tVar i) tb rSetL)) ρ n E := fun B H σ D G K => by
  refine hv B H σ G _ fun v d B1 H1 m s1 j1 r1 a1 => ?_
  have G1 := G.step s1 j1
  obtain ⟨l, xs, g1, _⟩ := G1.own h
  refine ⟨_, g1, hj d m a1 B1 H1 σ G1 _ fun w e B2 H2 m2 s2 j2 r2 ⟨j, ej, hlt, hn⟩ => ?_⟩
  have G2 := G1.step s2 j2
  obtain ⟨l', ys, k1, k2, k3, k4, k5, k6⟩ := G2.own h
  rw [g1] at k1
  cases k1
  subst ej
  cases r2
  have hset : ∀ {xs : List V} {ds : List Da} {j : Nat}, Reps c.K B2 xs ds → Reps c.K B2 (xs.set j v) (ds.set j d) := by
    intro xs
    induction xs with
    | nil => intro ds j r; cases r; exact .nil
    | cons x xs ih =>
      intro ds j r
      cases r with
      | cons a b =>
        cases j with
        | zero => exact .cons (r1.up s2.eb) b
        | succ j => exact .cons a (ih b)
  exact ⟨l, ys, (j : Int), j, rfl, rfl, k5, Evl.ixN_nat (by rw [k6.len]; exact hlt), K.nx (s1.eb.trans s2.eb) (G2.mutOwn h g1 (hset k6)) hn⟩
end
end Ly


set_option Elab.async false
set_option autoImplicit false
set_option linter.all false
set_option maxRecDepth 100000
set_option maxHeartbeats 4000000
/-! itertools.combinations at the level of the machine -/
namespace Cmb
open PySem PySem.Spec PyProof.Rows L2
abbrev ty : String := "itertools.combinations"
theorem mroC : mroOf (.type ty) = pure [.type ty, .type "object"] := by
  rw [mroOf_type]
  kernel_rfl
theorem newC : typeLookup (.type ty) "__new__" = pure (some (.builtin "itertools.combinations.__new__")) := by
  rw [typeLookup_type, builtinLookup_eq_fast]
  kernel_rfl
theorem subC : isSubtype (.type ty) (.type ty) = pure true := by
  rw [isSubtype_type]
  kernel_rfl
theorem initC : Slot ty "__init__" "object.__init__" := by
  refine .of (owner := "object") (n := "__init__") ?_ (by decide +kernel) (by decide +kernel) (by decide +kernel) ?_ ?_
  · rw [typeLookup_type, builtinLookup_eq_fast]
    kernel_rfl
  · first | exact .inr (by decide +kernel) | exact .inl (by decide +kernel)
  · rw [isSubtype_type]
    kernel_rfl
theorem calledC : TypeCalled ty "itertools.combinations.__new__" "object.__init__" := ⟨by decide +kernel, by decide +kernel, ⟨_, _, mroC⟩, madeBy_type mroC newC (by decide +kernel), by decide +kernel, subC, initC⟩
theorem typeCallC (a b : Value) : checkTypeCall ty ⟨[a, b], []⟩ = pure () := by kernel_rfl
theorem newCallC (a b : Value) : checkBuiltinCall "itertools.combinations.__new__" ⟨[.type ty, a, b], []⟩ = pure () := by kernel_rfl
theorem entryNewC : entryFor table "itertools.combinations.__new__" = some Builtin.«itertools.combinations.__new__» := entryFor_of_tree (by kernel_rfl)
theorem iterC : Slot ty "__iter__" "itertools.combinations.__iter__" := by
  refine .of (owner := ty) (n := "__iter__") ?_ (by decide +kernel) (by decide +kernel) (by decide +kernel) ?_ subC
  · rw [typeLookup_type, builtinLookup_eq_fast]
    kernel_rfl
  · first | exact .inr (by decide +kernel) | exact .inl (by decide +kernel)
theorem nextC : Slot ty "__next__" "itertools.combinations.__next__" := by
  refine .of (owner := ty) (n := "__next__") ?_ (by decide +kernel) (by decide +kernel) (by decide +kernel) ?_ subC
  · rw [typeLookup_type, builtinLookup_eq_fast]
    kernel_rfl
  · first | exact .inr (by decide +kernel) | exact .inl (by decide +kernel)
theorem entryIterC : entryFor table "itertools.combinations.__iter__" = some Builtin.«dict_keyiterator.__iter__» :=
  entryFor_alias (id' := "dict_keyiterator.__iter__") (by kernel_rfl) (by first | rfl | decide +kernel) (by decide +kernel) (by kernel_rfl)
theorem entryNextC : entryFor table "itertools.combinations.__next__" = some Builtin.«itertools.combinations.__next__» := entryFor_of_tree (by kernel_rfl)
theorem ownerC : Manifest.owners.lookup (String.ofList ['s', 'n', 'o', 'i', 't', 'a', 'n', 'i', 'b', 'm', 'o', 'c', '.', 's', 'l', 'o', 'o', 't', 'r', 'e', 't', 'i'].reverse) = some Manifest.sig_itertools_combinations := by kernel_rfl
theorem argsIterC (a : Value) : argsOk "itertools.combinations.__iter__" ⟨[a], []⟩ := by
  unfold argsOk
  rw [signature?_of (id := "itertools.combinations.__iter__") (n := "__iter__".toList.reverse) (o := ['s', 'n', 'o', 'i', 't', 'a', 'n', 'i', 'b', 'm', 'o', 'c', '.', 's', 'l', 'o', 'o', 't', 'r', 'e', 't', 'i']) (by kernel_rfl) ownerC]
  kernel_rfl
theorem argsNextC (a : Value) : argsOk "itertools.combinations.__next__" ⟨[a], []⟩ := by
  unfold argsOk
  rw [signature?_of (id := "itertools.combinations.__next__") (n := "__next__".toList.reverse) (o := ['s', 'n', 'o', 'i', 't', 'a', 'n', 'i', 'b', 'm', 'o', 'c', '.', 's', 'l', 'o', 'o', 't', 'r', 'e', 't', 'i']) (by kernel_rfl) ownerC]
  kernel_rfl
theorem noDictC : typeHasDict (.type ty) = false := by decide +kernel
theorem noLenC : typeLookup (.type ty) "__len__" = pure none := by
  rw [typeLookup_type, builtinLookup_eq_fast]
  kernel_rfl
theorem noHintC : typeLookup (.type ty) "__length_hint__" = pure none := by
  rw [typeLookup_type, builtinLookup_eq_fast]
  kernel_rfl
/-- the object's fields: pool, state, what it gave last, the places -/
def rec (p : Addr) (st : Int) (last : Value) (ix : List Nat) : Obj := { cls := .type ty, dict := none, data := .fields (.ref p :: rawInt st :: last :: ix.map fun (i : Nat) => rawInt i).toArray, slots := #[] }
theorem cls_and (x y : Value) : Builtin.Itertools.itClassAndRest "combinations" ⟨[.type ty, x, y], []⟩ = pure (.type ty, [x, y]) := by
  have q := subC
  unfold Builtin.Itertools.itClassAndRest
  show (isType (.type ty) >>= _) = _
  simp only [isType, pure_bind, Bool.not_true, Bool.false_eq_true, if_false]
  show (isSubtype (.type ty) (.type ty) >>= _) = _
  rw [q]
  rfl
theorem bind_two (x y : Value) : Builtin.Itertools.itBindNamed "combinations" ["iterable", "r"] 2 2 [x, y] [] = pure [some x, some y] := by kernel_rfl
theorem size_arg {r : Nat} (t : Tok) (h : r ≤ 1000) : Builtin.Itertools.itSsizeArg (.int (r : Int) t) = pure (r : Int) := by
  have h2 : (decide ((r : Int) < -(2 ^ 63 : Int)) || decide ((r : Int) ≥ 2 ^ 63)) = false := by
    rw [Bool.or_eq_false_iff]
    exact ⟨decide_eq_false (by omega), decide_eq_false (by omega)⟩
  unfold Builtin.Itertools.itSsizeArg
  show (pure (r : Int) >>= _) = _
  rw [pure_bind]
  show (if (decide ((r : Int) < -(2 ^ 63 : Int)) || decide ((r : Int) ≥ 2 ^ 63)) = true then _ else _) = _
  rw [h2]
  rfl
theorem new_rec {prog : Program} {w : World} {A : Around} {E : Value → Shared → Prop} {s : Shared} {fs : List Value} {Q : Value → Shared → Prop} (hz : fs.length ≤ 2000) (h : Q (.ref s.heap.objs.size) { s with heap := s.heap.push { cls := .type ty, dict := none, data := .fields fs.toArray, slots := #[] } }) :
    wpAny (model prog w) A (Builtin.Itertools.itNewRecord (.type ty) fs) Q E s := by
  have hd := noDictC
  unfold Builtin.Itertools.itNewRecord
  rw [if_pos (by rw [hd]; rfl)]
  exact wpAny_newObj_type h (by show fs.toArray.size ≤ sizeLine + 2; rw [List.size_toArray, sizeLine_eq]; omega)
section
variable {prog : Program} {w : World} {A : Around} {E : Value → Shared → Prop} {s : Shared}
theorem new_cmb (x : Value) (r : Nat) (t : Tok) (h1 : r ≤ 1000) : MeetsIn prog w (Builtin.«itertools.combinations.__new__» ⟨[.type ty, x, .int r t], []⟩)
    (fun A R s => wpAny (model prog w) A.in1 (collect x) (fun items s1 => items.length ≤ sizeLine ∧ r ≤ items.length ∧ R (.ok (.ret (.ref (s1.heap.push { cls := .type "tuple", data := .seq items.toArray }).objs.size))) { s1 with heap := (s1.heap.push { cls := .type "tuple", data := .seq items.toArray }).push (rec s1.heap.objs.size 0 .none (List.range r)) }) (fun e s1 => R (.error e) s1) s) :=
  .of_wp fun A R s h => by
    unfold Builtin.«itertools.combinations.__new__»
    refine wpAny_bind ?_
    wp_delta
    refine wpAny_bind (wpAny_of_eq (cls_and _ _) ?_)
    try dsimp only
    refine wpAny_bind (wpAny_of_eq (bind_two _ _) ?_)
    try dsimp only
    refine wpAny_bind (wpAny_of_eq (size_arg t h1) ?_)
    try dsimp only
    refine wpAny_bind (wpAny_mono h (fun items s1 h => ?_) fun _ _ z => z)
    obtain ⟨z1, z2, hR⟩ := h
    try dsimp only
    rw [if_neg (by omega)]
    try dsimp only
    rw [if_neg (by unfold Builtin.Itertools.itTooMany; rw [decide_eq_true_iff]; omega)]
    try dsimp only
    refine wpAny_bind (wpAny_newTuple ?_)
    refine wpAny_pure ?_
    try dsimp only
    rw [if_neg (by rw [Int.toNat_natCast]; omega)]
    rw [Int.toNat_natCast]
    refine wpAny_bind (new_rec (by simp; omega) ?_)
    exact wpAny_pure ⟨_, rfl, hR⟩
/-- combinations(x, r): the pool, then the object -/
theorem call_cmb {x : Value} {r : Nat} {t : Tok} {Q : Value → Shared → Prop} (h1 : r ≤ 1000)
    (h : wpAny (model prog w) A.in1.in1 (collect x) (fun items s1 => items.length ≤ sizeLine ∧ r ≤ items.length ∧ ∀ h', h'.get? s1.heap.objs.size = some { cls := .type "tuple", data := .seq items.toArray } →
      h'.get? (s1.heap.objs.size + 1) = some (rec s1.heap.objs.size 0 .none (List.range r)) → h'.objs.size = s1.heap.objs.size + 2 → (∀ b o, s1.heap.get? b = some o → h'.get? b = some o) → Q (.ref (s1.heap.objs.size + 1)) { s1 with heap := h' }) E s) :
    wpAny (model prog w) A (call (.type ty) [x, .int r t]) Q E s := by
  refine callType_newIn calledC (by decide +kernel) (typeCallC _ _) (newCallC _ _) (fun obj => F.args_object_init_3 obj _ _) entryNewC (new_cmb x r t h1) ?_
  show wpAny (model prog w) A.in1.in1 (collect x) _ _ _
  refine wpAny_mono h (fun items s1 h => ?_) fun _ _ z => z
  obtain ⟨z1, z2, hQ⟩ := h
  refine ⟨z1, z2, ?_⟩
  have e : (s1.heap.push { cls := .type "tuple", data := .seq items.toArray }).objs.size = s1.heap.objs.size + 1 := Heap.size_push ..
  have g : ((s1.heap.push { cls := .type "tuple", data := .seq items.toArray }).push (rec s1.heap.objs.size 0 .none (List.range r))).get? (s1.heap.push { cls := .type "tuple", data := .seq items.toArray }).objs.size = some (rec s1.heap.objs.size 0 .none (List.range r)) := Heap.get?_push_size _ rfl
  have q := hQ _ (Heap.get?_push_of_some _ (Heap.get?_push_size _ rfl)) (by rw [e] at g; exact g) (by rw [Heap.size_push, e]) fun b o z => Heap.get?_push_of_some _ (Heap.get?_push_of_some _ z)
  rw [← e] at q
  show _ ∧ _
  exact ⟨⟨_, g, rfl⟩, q⟩
theorem iter_cmb {it p : Addr} {st : Int} {last : Value} {ix : List Nat} {Q : Value → Shared → Prop} (hit : s.heap.get? it = some (rec p st last ix)) (h : Q (.ref it) s) : wpAny (model prog w) A (pyIter (.ref it)) Q E s := by
  have hT : s.TypeIs (.ref it) ty := ⟨_, hit, rfl⟩
  refine wpAny_pyIter_slot hT iterC (wpAny_call_entry iterC hT entryIterC ?_ (argsIterC _))
  show wpAny _ _ (ret (.ref it)) _ _ s
  exact wpAny_pure ⟨_, rfl, ty, _, hT, nextC.lookup, h⟩
/-- the places that come next -/
def nx (n : Nat) (ix : List Nat) : Option (List Nat) :=
  match (List.range ix.length).reverse.find? fun j => ix.getD j 0 != j + n - ix.length with
  | none => none
  | some j => some (ix.take j ++ (List.range (ix.length - j)).map fun d => ix.getD j 0 + 1 + d)
theorem numbers_cmb {it p : Addr} {st : Int} {last : Value} {ix : List Nat} {Q : List Nat → Shared → Prop} (hit : s.heap.get? it = some (rec p st last ix)) (h : Q ix s) : wpAny (model prog w) A (Builtin.Itertools.itNumbersFrom (.ref it) 3) Q E s := by
  unfold Builtin.Itertools.itNumbersFrom
  show wpAny _ _ (load it >>= _) _ _ _
  refine wpAny_bind (wpAny_load hit ?_)
  unfold rec
  show wpAny _ _ (pure _) _ _ _
  refine wpAny_pure ?_
  have e : ((Value.ref p :: rawInt st :: last :: ix.map fun (i : Nat) => rawInt i).toArray.toList.drop 3).map (fun | .int n _ => n.toNat | _ => 0) = ix := by
    show ((ix.map fun (i : Nat) => rawInt i)).map _ = ix
    rw [List.map_map]
    conv => rhs; rw [← List.map_id ix]
    rfl
  exact (congrArg (fun z => Q z s) e).mpr h
def picks (items : Array Value) (ix : List Nat) : List Value := ix.map fun i => items.getD i .none
/-- what stands behind a step -/
structure Stepped (h h' : Heap) (it p : Addr) (items : Array Value) (ix : List Nat) : Prop where
  rc : h'.get? it = some (rec p 1 (.ref h.objs.size) ix)
  tp : h'.get? h.objs.size = some { cls := .type "tuple", data := .seq (picks items ix).toArray }
  sz : h'.objs.size = h.objs.size + 1
  kp : ∀ b o, b ≠ it → h.get? b = some o → h'.get? b = some o
theorem next_first {it p : Addr} {last : Value} {ix : List Nat} {Q : Option Value → Shared → Prop} {items : Array Value} (hit : s.heap.get? it = some (rec p 0 last ix)) (hp : IsTup s.heap p items) (hl : ix.length ≤ 1000)
    (hQ : ∀ h', Stepped s.heap h' it p items ix → Q (some (.ref s.heap.objs.size)) { s with heap := h' }) : wpAny (model prog w) A (pyNext (.ref it)) Q E s := by
  have hT : s.TypeIs (.ref it) ty := ⟨_, hit, rfl⟩
  obtain ⟨op, hop, hcp, nn, hdp⟩ := hp
  unfold pyNext
  refine wpAny_bind (wpAny_attempt (wpAny_callSpecial?_slot (name := Str.ofString "__next__") hT nextC (wpAny_call_entry nextC hT entryNextC ?_ (argsNextC _))))
  unfold Builtin.«itertools.combinations.__next__»
  wp_delta
  refine wpAny_bind (wpAny_of_eq (a := (Value.ref it, [])) rfl ?_)
  try dsimp only
  refine wpAny_bind (wpAny_field hit rfl (x := .ref p) rfl ?_)
  refine wpAny_bind (numbers_cmb hit ?_)
  unfold Builtin.Itertools.itIntField
  refine wpAny_bind (wpAny_bind (wpAny_field hit rfl (x := rawInt 0) rfl (wpAny_pure ?_)))
  try dsimp only
  refine wpAny_bind (wpAny_setField_rec hit (by simp) fun h1 g1 sb1 => ?_)
  have g2 : h1.get? it = some (rec p 1 last ix) := by
    rw [g1, rec]
    simp
  clear g1
  have hop1 : h1.get? p = some op := (sb1.2 p fun z => by rw [z, hit] at hop; cases hop; exact absurd (show Value.type ty = Value.type "tuple" from hcp) (by decide)).trans hop
  refine wpAny_bind ?_
  wp_delta
  unfold Builtin.Itertools.itPoolItems
  refine wpAny_bind (wpAny_bind (wpAny_seqItems hop1 hdp (wpAny_pure ?_)))
  refine wpAny_newTuple ?_ (by rw [List.length_map, sizeLine_eq]; omega)
  have g3 : (h1.push { cls := .type "tuple", data := .seq (picks items ix).toArray }).get? it = some (rec p 1 last ix) := Heap.get?_push_of_some _ g2
  refine wpAny_bind (wpAny_field g3 rfl (x := last) rfl ?_)
  refine wpAny_bind (wpAny_setField_rec g3 (by simp) fun h2 g4 sb2 => ?_)
  refine wpAny_bind (wpAny_letGo ?_)
  have hsz1 : h1.objs.size = s.heap.objs.size := sb1.1
  have hil : it < s.heap.objs.size := Heap.lt_size hit
  refine wpAny_pure ⟨_, rfl, wpAny_pure ?_⟩
  show Q (some (.ref h1.objs.size)) _
  rw [hsz1]
  refine hQ h2 ⟨?_, ?_, ?_, fun b o hb q => ?_⟩
  · rw [g4, rec, hsz1]
    simp
  · rw [← hsz1]
    exact (sb2.2 _ (by rw [hsz1]; exact Nat.ne_of_gt hil)).trans (Heap.get?_push_size _ rfl)
  · rw [sb2.1, Heap.size_push, hsz1]
  · exact (sb2.2 b hb).trans (Heap.get?_push_of_some _ ((sb1.2 b hb).trans q))
theorem next_then {it p : Addr} {last : Value} {ix jx : List Nat} {Q : Option Value → Shared → Prop} {items : Array Value} (hit : s.heap.get? it = some (rec p 1 last ix)) (hp : IsTup s.heap p items) (hn : nx items.size ix = some jx) (hl : jx.length ≤ 1000)
    (hQ : ∀ h', Stepped s.heap h' it p items jx → Q (some (.ref s.heap.objs.size)) { s with heap := h' }) : wpAny (model prog w) A (pyNext (.ref it)) Q E s := by
  have hT : s.TypeIs (.ref it) ty := ⟨_, hit, rfl⟩
  obtain ⟨op, hop, hcp, nn, hdp⟩ := hp
  unfold pyNext
  refine wpAny_bind (wpAny_attempt (wpAny_callSpecial?_slot (name := Str.ofString "__next__") hT nextC (wpAny_call_entry nextC hT entryNextC ?_ (argsNextC _))))
  unfold Builtin.«itertools.combinations.__next__»
  wp_delta
  refine wpAny_bind (wpAny_of_eq (a := (Value.ref it, [])) rfl ?_)
  try dsimp only
  refine wpAny_bind (wpAny_field hit rfl (x := .ref p) rfl ?_)
  refine wpAny_bind (numbers_cmb hit ?_)
  unfold Builtin.Itertools.itIntField
  refine wpAny_bind (wpAny_bind (wpAny_field hit rfl (x := rawInt 1) rfl (wpAny_pure ?_)))
  try dsimp only
  refine wpAny_bind ?_
  unfold Builtin.Itertools.itPoolItems
  refine wpAny_bind (wpAny_seqItems hop hdp (wpAny_pure ?_))
  split
  rotate_left
  · rename_i h
    have h' : nx items.size ix = none := h
    rw [hn] at h'
    cases h'
  rename_i next h
  have h' : nx items.size ix = some next := h
  rw [hn] at h'
  cases h'
  clear h
  refine wpAny_bind ?_
  unfold Builtin.Itertools.itSetNumbersFrom
  try dsimp only
  refine wpAny_updateFields hit rfl ?_ (by simp only [Array.size_append, List.size_toArray, List.length_map, Array.size_extract]; rw [sizeLine_eq]; omega)
  have g1 := Heap.get?_update_self (Obj.mapFields fun fs => fs.extract 0 3 ++ (jx.map fun (n : Nat) => rawInt n).toArray) hit rfl
  have sb1 : Heap.SameBut it s.heap (s.heap.update it (Obj.mapFields fun fs => fs.extract 0 3 ++ (jx.map fun (n : Nat) => rawInt n).toArray)) := Heap.SameBut.update ..
  generalize s.heap.update it (Obj.mapFields fun fs => fs.extract 0 3 ++ (jx.map fun (n : Nat) => rawInt n).toArray) = h1 at g1 sb1 ⊢
  have g2 : h1.get? it = some (rec p 1 last jx) := by
    rw [g1]
    simp [rec, Obj.mapFields]
  have hop1 : h1.get? p = some op := (sb1.2 p fun z => by rw [z, hit] at hop; cases hop; exact absurd (show Value.type ty = Value.type "tuple" from hcp) (by decide)).trans hop
  refine wpAny_bind ?_
  wp_delta
  unfold Builtin.Itertools.itPoolItems
  refine wpAny_bind (wpAny_bind (wpAny_seqItems hop1 hdp (wpAny_pure ?_)))
  refine wpAny_newTuple ?_ (by rw [List.length_map, sizeLine_eq]; omega)
  have g3 : (h1.push { cls := .type "tuple", data := .seq (picks items jx).toArray }).get? it = some (rec p 1 last jx) := Heap.get?_push_of_some _ g2
  refine wpAny_bind (wpAny_field g3 rfl (x := last) rfl ?_)
  refine wpAny_bind (wpAny_setField_rec g3 (by simp) fun h2 g4 sb2 => ?_)
  refine wpAny_bind (wpAny_letGo ?_)
  have hsz1 : h1.objs.size = s.heap.objs.size := sb1.1
  have hil : it < s.heap.objs.size := Heap.lt_size hit
  refine wpAny_pure ⟨_, rfl, wpAny_pure ?_⟩
  show Q (some (.ref h1.objs.size)) _
  rw [hsz1]
  refine hQ h2 ⟨?_, ?_, ?_, fun b o hb q => ?_⟩
  · rw [g4, rec, hsz1]
    simp
  · rw [← hsz1]
    exact (sb2.2 _ (by rw [hsz1]; exact Nat.ne_of_gt hil)).trans (Heap.get?_push_size _ rfl)
  · rw [sb2.1, Heap.size_push, hsz1]
  · exact (sb2.2 b hb).trans (Heap.get?_push_of_some _ ((sb1.2 b hb).trans q))
theorem next_last {it p : Addr} {last : Value} {ix : List Nat} {Q : Option Value → Shared → Prop} {items : Array Value} (hh : A.handled = none) (hit : s.heap.get? it = some (rec p 1 last ix)) (hp : IsTup s.heap p items) (hn : nx items.size ix = none)
    (hQ : ∀ h', Heap.ExtBut it s.heap h' → Q none { s with heap := h' }) : wpAny (model prog w) A (pyNext (.ref it)) Q E s := by
  have hT : s.TypeIs (.ref it) ty := ⟨_, hit, rfl⟩
  obtain ⟨op, hop, hcp, nn, hdp⟩ := hp
  unfold pyNext
  refine wpAny_bind (wpAny_attempt (wpAny_callSpecial?_slot (name := Str.ofString "__next__") hT nextC (wpAny_call_entry nextC hT entryNextC ?_ (argsNextC _))))
  unfold Builtin.«itertools.combinations.__next__»
  wp_delta
  refine wpAny_bind (wpAny_of_eq (a := (Value.ref it, [])) rfl ?_)
  try dsimp only
  refine wpAny_bind (wpAny_field hit rfl (x := .ref p) rfl ?_)
  refine wpAny_bind (numbers_cmb hit ?_)
  unfold Builtin.Itertools.itIntField
  refine wpAny_bind (wpAny_bind (wpAny_field hit rfl (x := rawInt 1) rfl (wpAny_pure ?_)))
  try dsimp only
  refine wpAny_bind ?_
  unfold Builtin.Itertools.itPoolItems
  refine wpAny_bind (wpAny_seqItems hop hdp (wpAny_pure ?_))
  split
  · rename_i next h
    have h' : nx items.size ix = some next := h
    rw [hn] at h'
    cases h'
  rename_i h
  clear h
  refine wpAny_bind (wpAny_setField_rec hit (by simp) fun h1 g1 sb1 => ?_)
  unfold Builtin.Itertools.itStop
  show wpAny _ _ (newExc (.type "StopIteration") [] >>= _) _ _ _
  refine wpAny_bind ?_
  simp only [newExc, newTuple]
  refine wpAny_bind (wpAny_newObj_type ?_ (by size_fits))
  refine wpAny_bind (m := firstArgMember _ _) (wpAny_of_eq (a := Value.none) (by first | rfl | (simp only [firstArgMember]; rfl)) ?_)
  refine wpAny_newObj_type ?_ (by size_fits)
  simp only [raiseNew]
  refine wpAny_bind (wpAny_handled ?_)
  first | rw [show A.in1.handled = none from hh] | rw [hh]
  refine wpAny_bind (wpAny_pure (wpAny_throw ?_))
  refine wpAny_bind (wpAny_isInstance (T := "StopIteration") (b := true) ⟨_, Heap.get?_push_size _ rfl, rfl⟩ isSubtype_stop ?_)
  exact wpAny_pure (hQ _ ((sb1.extBut.push _).push _))
end
end Cmb


set_option Elab.async false
set_option autoImplicit false
set_option linter.all false
set_option maxRecDepth 100000
set_option maxHeartbeats 4000000
namespace Cmb
open PySem PySem.Spec PyProof.Rows L2
/-- cs: what comes, in its order -/
structure Chain (n r : Nat) (cs : List (List Nat)) : Prop where
  hd : cs[0]? = some (List.range r)
  st : ∀ k a b, cs[k]? = some a → cs[k + 1]? = some b → nx n a = some b
  en : ∀ a, cs[cs.length - 1]? = some a → nx n a = none
  le : ∀ c, c ∈ cs → c.length ≤ 1000
  lt : ∀ c, c ∈ cs → ∀ i, i ∈ c → i < n
def pickV (vs : List V) (ix : List Nat) : List V := ix.map fun i => (vs[i]?).getD .non
theorem pick_rel {vs : List V} {its : List Value} (r : Vals vs its) : ∀ {ix : List Nat}, (∀ i, i ∈ ix → i < vs.length) → Vals (pickV vs ix) (picks its.toArray ix)
  | [], _ => .nil
  | i :: ix, h => by
    have hi := h i List.mem_cons_self
    obtain ⟨u, hu, ru⟩ := r.get (List.getElem?_eq_getElem hi)
    refine .cons ?_ (pick_rel r fun j hj => h j (List.mem_cons_of_mem _ hj))
    show L2.RelV ((vs[i]?).getD .non) (its.toArray.getD i .none)
    rw [List.getElem?_eq_getElem hi]
    have e : its.toArray.getD i .none = u := by
      rw [Array.getD_eq_getD_getElem?, List.getElem?_toArray, hu]
      rfl
    rw [e]
    exact ru
def ItC (vs : List V) (cs : List (List Nat)) : It :=
  ⟨fun i _ => i < cs.length, fun i H v H' => ∃ T ix, v = .ref T ∧ cs[i]? = some ix ∧ H T = none ∧ H' = upd H T (.tup (pickV vs ix)), fun i _ => cs.length ≤ i⟩
def tnC (it p : Addr) (its : List Value) (cs : List (List Nat)) (i : Nat) (h : Heap) : Prop :=
  ∃ last, h.get? it = some (rec p (if i = 0 then 0 else 1) last (cs.getD (i - 1) [])) ∧ IsTup h p its.toArray ∧ it ≠ p ∧ i ≤ cs.length
theorem turn_cmb {P : Program} {w : World} {K : PySem.W.Frag} {tg : Expr} {it p : Addr} {vs : List V} {its : List Value} {cs : List (List Nat)} {r : Nat} (rv : Vals vs its) (C : Chain vs.length r cs) : Turn P w K tg (ItC vs cs) [it, p] it (tnC it p its cs) where
  mem := by simp
  obj := fun i h tn b hb => by
    obtain ⟨last, h1, ⟨o, h2, _, n, h3⟩, _, _⟩ := tn
    rcases List.mem_cons.mp hb with e | e
    · exact ⟨_, by rw [e]; exact h1, fun v q => nomatch (show Data.fields _ = Data.cell v from q)⟩
    · rw [List.mem_singleton.mp e]
      exact ⟨o, h2, fun v q => by rw [h3] at q; cases q⟩
  keep := fun i h h' ⟨last, h1, ⟨o, h2, h3⟩, ne, le⟩ k => ⟨last, k it (by simp) _ h1, ⟨o, k p (by simp) _ h2, h3⟩, ne, le⟩
  item := by
    intro X hP hw hK hc i pins s σ H E I hf tn hg
    subst hP hw hK
    obtain ⟨last, h1, h2, ne, le⟩ := tn
    have hlt : i < cs.length := hg
    have hi : cs[i]? = some cs[i] := List.getElem?_eq_getElem hlt
    have hm : cs[i] ∈ cs := List.getElem_mem hlt
    have ez : its.toArray.size = vs.length := by rw [List.size_toArray, ← rv.length]
    have step : ∀ Q : Option Value → Shared → Prop, (∀ h', Stepped s.heap h' it p its.toArray cs[i] → Q (some (.ref s.heap.objs.size)) { s with heap := h' }) → wpAny (model X.prog X.w) X.A (pyNext (.ref it)) Q E s := fun Q q => by
      by_cases z : i = 0
      · subst z
        rw [if_pos rfl] at h1
        have e : cs.getD (0 - 1) [] = cs[0] := by
          rw [List.getD_eq_getElem?_getD]
          show (cs[0]?).getD [] = _
          rw [hi]
          rfl
        rw [e] at h1
        exact next_first h1 h2 (C.le _ hm) q
      · rw [if_neg z] at h1
        have hj : cs[i - 1]? = some cs[i - 1] := List.getElem?_eq_getElem (by omega)
        have e : cs.getD (i - 1) [] = cs[i - 1] := by
          rw [List.getD_eq_getElem?_getD, hj]
          rfl
        rw [e] at h1
        refine next_then h1 h2 ?_ (C.le _ hm) q
        rw [ez]
        exact C.st (i - 1) _ _ hj (by rw [show i - 1 + 1 = i by omega]; exact hi)
    refine step _ fun h' S => ⟨_, rfl, ?_⟩
    have il : it < s.heap.objs.size := Heap.lt_size h1
    have pl : p < s.heap.objs.size := by
      obtain ⟨o, h, _⟩ := h2
      exact Heap.lt_size h
    refine go_of (n := ty) S.rc rfl rfl (by decide) ?_
    have hz : (pickV vs cs[i]).length ≤ sizeLine := by
      unfold pickV
      rw [List.length_map, sizeLine_eq]
      have := C.le _ hm
      omega
    have new : ObjOk X.prog X.w (upd H s.heap.objs.size (.tup (pickV vs cs[i]))) h' s.heap.objs.size (.tup (pickV vs cs[i])) := ⟨hz, _, pick_rel rv (C.lt _ hm), ⟨_, S.tp, rfl, _, rfl⟩⟩
    refine ⟨.ref s.heap.objs.size, upd H s.heap.objs.size (.tup (pickV vs cs[i])), I.turnedNew (t' := s.toks) (ch := [it, p]) (fun b o hb q => S.kp b o (fun z => hb (by simp [z])) q) hf (Nat.le_refl _) new, rfl, ⟨_, _, rfl, hi, I.hok.fresh (Nat.le_refl _), rfl⟩, ⟨.ref s.heap.objs.size, ?_, ?_, ne, hlt⟩, fun b hb => ?_⟩
    · rw [if_neg (Nat.succ_ne_zero i)]
      have e : cs.getD (i + 1 - 1) [] = cs[i] := by
        rw [List.getD_eq_getElem?_getD]
        show (cs[i]?).getD [] = _
        rw [hi]
        rfl
      rw [e]
      exact S.rc
    · obtain ⟨o, g, g2⟩ := h2
      exact ⟨o, S.kp p o (Ne.symm ne) g, g2⟩
    · have hb' : b < s.heap.objs.size := by
        rcases List.mem_cons.mp hb with e | e
        · rw [e]
          exact il
        · rw [List.mem_singleton.mp e]
          exact pl
      rw [upd_ne (Nat.ne_of_lt hb')]
      exact (hf b hb).1
  done := by
    intro X hP hw hK hc i pins s σ H E I hf tn hg
    subst hP hw hK
    obtain ⟨last, h1, h2, ne, le⟩ := tn
    have ei : i = cs.length := Nat.le_antisymm le hg
    have pos : 0 < cs.length := by
      have := C.hd
      exact (List.getElem?_eq_some_iff.mp this).1
    rw [if_neg (by omega)] at h1
    have hj : cs[i - 1]? = some cs[i - 1] := List.getElem?_eq_getElem (by omega)
    have e : cs.getD (i - 1) [] = cs[i - 1] := by
      rw [List.getD_eq_getElem?_getD, hj]
      rfl
    rw [e] at h1
    obtain ⟨f0, f1, f2, f3, f4, f5⟩ := hf it (by simp)
    have ez : its.toArray.size = vs.length := by rw [List.size_toArray, ← rv.length]
    refine next_last (I.ok.hd hc) h1 h2 ?_ fun h' eb => ⟨rfl, I.turned (t' := s.toks) (fun b o hb q => eb b o hb q) f0 f1 f3 f4 f5⟩
    rw [ez]
    refine C.en _ ?_
    have q : cs.length - 1 = i - 1 := by omega
    rw [q]
    exact hj
  self := fun A i s Q E ⟨last, h1, _⟩ h => iter_cmb h1 h
/-! ### combinations(x, r), called -/
section
variable {X : Cx} {tg : Expr} {pins : List (Addr × Obj)} {σ : L2.St} {H : Hp} {s : Shared} {v : Value} {xs : List V} {r : Nat} {t : Tok} {cs : List (List Nat)}
/-- what x gives when it is walked to its end -/
def Pool (X : Cx) (xs : List V) (v : Value) (s : Shared) : Prop := ∀ (A : Around) (E : Value → Shared → Prop) (Q : List Value → Shared → Prop), A.handled = none → (∀ h' tk items, Vals xs items → (∀ b o, s.heap.get? b = some o → h'.get? b = some o) → Q items { s with heap := h', toks := tk }) → wpAny (model X.prog X.w) A (collect v) Q E s
theorem cmb_it {Q : Value → Shared → Prop} (hc : X.calm = true) (I : Inv X pins σ H s) (hv : Pool X xs v s) (hz : xs.length ≤ sizeLine) (hr : r ≤ 1000) (hl : r ≤ xs.length) (C : Chain xs.length r cs)
    (q : ∀ it p its h' tk, Vals xs its → Inv X pins σ H { s with heap := h', toks := tk } → FpOk X pins H it → FpOk X pins H p → tnC it p its cs 0 h' → p < it → Q (.ref it) { s with heap := h', toks := tk }) : wpAny (model X.prog X.w) X.A (call (.type ty) [v, .int (r : Int) t]) Q X.xe s := by
  refine call_cmb hr (hv _ _ _ (I.ok.hd hc) fun h1 tk items rv k1 => ⟨by rw [← rv.length]; exact hz, by rw [← rv.length]; exact hl, fun h' g1 g2 g3 g4 => ?_⟩)
  have I1 : Inv X pins σ H { s with heap := h1, toks := tk } := I.kept k1
  have I2 : Inv X pins σ H { s with heap := h', toks := tk } := I1.kept (t' := tk) g4
  refine q _ _ items h' tk rv I2 (I1.fpOk (Nat.le_succ _) (I1.hok.fresh (Nat.le_succ _))) (I1.fpOk (Nat.le_refl _) (I1.hok.fresh (Nat.le_refl _))) ⟨.none, ?_, ⟨_, g1, rfl, _, rfl⟩, Nat.succ_ne_self _, Nat.zero_le _⟩ (Nat.lt_succ_self _)
  rw [if_pos rfl]
  have e : cs.getD (0 - 1) [] = List.range r := by
    rw [List.getD_eq_getElem?_getD]
    show (cs[0]?).getD [] = _
    rw [C.hd]
    rfl
  rw [e]
  exact g2
theorem pool_list {a : Addr} (I : Inv X pins σ H s) (h : SqL X.K H a xs) : Pool X xs (.ref a) s ∧ xs.length ≤ sizeLine := by
  obtain ⟨its, rv, pl, hz⟩ := I.list h
  refine ⟨fun A E Q hh q => collect_list pl.isList (q _ _ _ rv fun b o e => ?_) (by rw [← rv.length]; exact hz), hz⟩
  have hb : b ≠ s.heap.objs.size := Nat.ne_of_lt (Heap.lt_size e)
  exact (Heap.get?_update_other _ _ (Ne.symm hb)).trans (Heap.get?_push_of_some _ e)
/-! ### for .. in combinations(xs, r) -/
def iCmbL (K : PySem.W.Frag) (ta : TA) : TI := fun σ H R => ta σ H fun vs H1 => ∃ (a : Addr) (xs : List V) (r : Nat) (cs : List (List Nat)), vs = [.ref a, .int (r : Int)] ∧ SqL K H1 a xs ∧ r ≤ 1000 ∧ r ≤ xs.length ∧ Chain xs.length r cs ∧ R (ItC xs cs) H1
theorem pi_cmbL {e e2 : Expr} {ta : TA} {x : Str} {p pos : Pos} (hc : X.calm = true) (hg : Gl X x) (hm : X.mg x = some (.type ty)) (ha : PA X [e, e2] ta) (hd : (x == ("__debug__" : Str)) = false := by decide) (hs : starEach [e, e2] X.env = (false, eval e X.env) :: starEach [e2] X.env := by rfl)
    (hp : (backTo pos (starEach [e2] X.env)).any (·.1) = false := by rfl) : PI X tg (.Call (.Name x p) [e, e2] [] pos) (iCmbL X.K ta) := by
  refine ⟨fun pins s σ H R I h => ?_⟩
  refine Call_ (ld_glob I hg hm (PyProof.Rows.callWith_type1 (thn (ha.run pos pins s σ H _ I h) fun us s1 ⟨vs, H1, I1, r1, q1⟩ => ?_) hs hp) hd)
  obtain ⟨a, xs, r, cs, rfl, hq, hr, hl, C, q⟩ := q1
  cases r1 with
  | cons ra rb =>
    cases rb with
    | cons rb rc =>
      cases rc
      cases ra
      obtain ⟨t, rfl⟩ := rb
      obtain ⟨hv, hz⟩ := pool_list I1 hq
      refine cmb_it hc I1 hv hz hr hl C fun it p its h' tk rv I2 f1 f2 tn lt => ?_
      obtain ⟨last, g1, _⟩ := id tn
      refine iter_cmb g1 ⟨it, [it, p], _, _, H1, rfl, I2, turn_cmb rv C, tn, fun b hb => ?_, q⟩
      rcases List.mem_cons.mp hb with e | e
      · rw [e]
        exact f1
      · rw [List.mem_singleton.mp e]
        exact f2
end
end Cmb


set_option Elab.async false
set_option autoImplicit false
set_option linter.all false
set_option maxRecDepth 100000
set_option maxHeartbeats 4000000
namespace Cmb
open PySem PySem.Spec PyProof.Rows L2
section
variable {X : Cx} {pins : List (Addr × Obj)} {σ : L2.St} {xs : List V} {its : List Value} {r : Nat} {cs : List (List Nat)}
theorem fp_upd {H : Hp} {b T : Addr} {o : HO} (f : FpOk X pins H b) (h : b ≠ T) : FpOk X pins (upd H T o) b := ⟨by rw [upd_ne h]; exact f.1, f.2⟩
/-- an object of the iterator's is tracked from now on -/
theorem caught {H : Hp} {s : Shared} {S : Addr} {ob : HO} (I : Inv X pins σ H s) (f : FpOk X pins H S) (new : ObjOk X.prog X.w (upd H S ob) s.heap S ob) : Inv X pins σ (upd H S ob) s := by
  have hn : H S = none := f.1
  have nS : ∀ {b : Addr} {u : HO}, H b = some u → b ≠ S := fun e z => by
    rw [z, hn] at e
    cases e
  refine I.step (h' := s.heap) (g' := s.gens) (t' := s.toks) (d' := s.drawn) (ch := [S]) (fun b hb => ?_) (fun b o _ _ _ e _ => e) (fun b o _ _ _ e _ => ⟨o.slots, e⟩) (fun b o hb _ n => ?_) (fun b o _ e => ⟨o, e⟩)
    (fun b ys e => ?_) (fun b o u e => ?_) (fun b ps e => ⟨#[], ?_⟩) (fun m hm => hm) (fun b u e => ?_) I.bare
  · rw [List.mem_singleton.mp hb]
    exact ⟨f.2.2.2.1, f.2.1, f.2.2.2.2.1, f.2.2.2.2.2⟩
  · rw [upd_ne fun z => hb (by simp [z])]
    exact n
  · rw [upd_ne (nS e)]
    exact e
  · rw [upd_ne (nS e)]
    exact e
  · rw [upd_ne (nS e), e]
    simp
  · by_cases hb : b = S
    · subst hb
      rw [upd_same] at e
      cases e
      exact new
    · rw [upd_ne hb] at e
      exact (I.hok b u e).stay (fun c v _ q => q) (fun c q => by rw [upd_ne (nS q)]; exact q) fun c ys q => by rw [upd_ne (nS q)]; exact q
/-- one step, the new tuple tracked -/
theorem step_cmb {A : Around} {H : Hp} {s : Shared} {it p : Addr} {i : Nat} {Q : Option Value → Shared → Prop} {E : Value → Shared → Prop} (rv : Vals xs its) (C : Chain xs.length r cs) (I : Inv X pins σ H s) (fi : FpOk X pins H it) (fp : FpOk X pins H p) (tn : tnC it p its cs i s.heap) (hlt : i < cs.length)
    (q : ∀ h', Inv X pins σ (upd H s.heap.objs.size (.tup (pickV xs cs[i]))) { s with heap := h' } → H s.heap.objs.size = none → tnC it p its cs (i + 1) h' → (∀ b o, b ≠ it → s.heap.get? b = some o → h'.get? b = some o) → Q (some (.ref s.heap.objs.size)) { s with heap := h' }) :
    wpAny (model X.prog X.w) A (pyNext (.ref it)) Q E s := by
  obtain ⟨last, h1, h2, ne, le⟩ := tn
  have hi : cs[i]? = some cs[i] := List.getElem?_eq_getElem hlt
  have hm : cs[i] ∈ cs := List.getElem_mem hlt
  have ez : its.toArray.size = xs.length := by rw [List.size_toArray, ← rv.length]
  have fin : ∀ h', Stepped s.heap h' it p its.toArray cs[i] → Q (some (.ref s.heap.objs.size)) { s with heap := h' } := fun h' S => by
    have hz : (pickV xs cs[i]).length ≤ sizeLine := by
      unfold pickV
      rw [List.length_map, sizeLine_eq]
      have := C.le _ hm
      omega
    have new : ObjOk X.prog X.w (upd H s.heap.objs.size (.tup (pickV xs cs[i]))) h' s.heap.objs.size (.tup (pickV xs cs[i])) := ⟨hz, _, pick_rel rv (C.lt _ hm), ⟨_, S.tp, rfl, _, rfl⟩⟩
    refine q h' (I.turnedNew (t' := s.toks) (ch := [it]) (fun b o hb q => S.kp b o (fun z => hb (by simp [z])) q) (fun b hb => by rw [List.mem_singleton.mp hb]; exact fi) (Nat.le_refl _) new) (I.hok.fresh (Nat.le_refl _)) ⟨.ref s.heap.objs.size, ?_, ?_, ne, hlt⟩ S.kp
    · rw [if_neg (Nat.succ_ne_zero i)]
      have e : cs.getD (i + 1 - 1) [] = cs[i] := by
        rw [List.getD_eq_getElem?_getD]
        show (cs[i]?).getD [] = _
        rw [hi]
        rfl
      rw [e]
      exact S.rc
    · obtain ⟨o, g, g2⟩ := h2
      exact ⟨o, S.kp p o (Ne.symm ne) g, g2⟩
  by_cases z : i = 0
  · subst z
    rw [if_pos rfl] at h1
    have e : cs.getD (0 - 1) [] = cs[0] := by
      rw [List.getD_eq_getElem?_getD]
      show (cs[0]?).getD [] = _
      rw [hi]
      rfl
    rw [e] at h1
    exact next_first h1 h2 (C.le _ hm) fin
  · rw [if_neg z] at h1
    have hj : cs[i - 1]? = some cs[i - 1] := List.getElem?_eq_getElem (by omega)
    have e : cs.getD (i - 1) [] = cs[i - 1] := by
      rw [List.getD_eq_getElem?_getD, hj]
      rfl
    rw [e] at h1
    refine next_then h1 h2 ?_ (C.le _ hm) fin
    rw [ez]
    exact C.st (i - 1) _ _ hj (by rw [show i - 1 + 1 = i by omega]; exact hi)
theorem end_cmb {A : Around} {H : Hp} {s : Shared} {it p : Addr} {Q : Option Value → Shared → Prop} {E : Value → Shared → Prop} (hh : A.handled = none) (rv : Vals xs its) (C : Chain xs.length r cs) (I : Inv X pins σ H s) (fi : FpOk X pins H it) (tn : tnC it p its cs cs.length s.heap)
    (q : ∀ h', Inv X pins σ H { s with heap := h' } → (∀ b o, b ≠ it → s.heap.get? b = some o → h'.get? b = some o) → Q none { s with heap := h' }) : wpAny (model X.prog X.w) A (pyNext (.ref it)) Q E s := by
  obtain ⟨last, h1, h2, ne, le⟩ := tn
  have pos : 0 < cs.length := (List.getElem?_eq_some_iff.mp C.hd).1
  rw [if_neg (by omega)] at h1
  have hj : cs[cs.length - 1]? = some cs[cs.length - 1] := List.getElem?_eq_getElem (by omega)
  have e : cs.getD (cs.length - 1) [] = cs[cs.length - 1] := by
    rw [List.getD_eq_getElem?_getD, hj]
    rfl
  rw [e] at h1
  obtain ⟨f0, f1, f2, f3, f4, f5⟩ := fi
  have ez : its.toArray.size = xs.length := by rw [List.size_toArray, ← rv.length]
  refine next_last hh h1 h2 ?_ fun h' eb => q h' (I.turned (t' := s.toks) (fun b o hb q => eb b o hb q) f0 f1 f3 f4 f5) fun b o hb q => eb b o hb q
  rw [ez]
  exact C.en _ hj
/-- the tuples so far -/
def Tr (H : Hp) (xs : List V) (cs : List (List Nat)) (ts : List Addr) (i : Nat) : Prop := ts.length = i ∧ ∀ (j : Nat) (ix : List Nat) (T : Addr), cs[j]? = some ix → ts[j]? = some T → H T = some (.tup (pickV xs ix))
def LS (h : Heap) (S : Addr) (ts : List Addr) : Prop := ∃ (acc : Array Value) (c : Nat), h.get? S = some { cls := .type "list", dict := none, data := .seq acc c, slots := #[] } ∧ acc.toList = ts.map Value.ref
theorem loop_cmb {A : Around} {R : Result → Shared → Prop} {S it p : Addr} (hh : A.handled = none) (rv : Vals xs its) (C : Chain xs.length r cs) (hn : cs.length ≤ 100000) (n1 : S ≠ it) (n2 : S ≠ p) (res : Value) :
    ∀ (k i : Nat) (s : Shared) (H : Hp) (ts : List Addr), cs.length - i = k → i ≤ cs.length → Inv X pins σ H s → FpOk X pins H it → FpOk X pins H p → FpOk X pins H S → tnC it p its cs i s.heap →
    LS s.heap S ts → Tr H xs cs ts i →
    (∀ H' s' ts', Evl.Ex H H' → (∀ T, T ∈ ts' → T ∉ ts → H T = none) → Inv X pins σ H' s' → FpOk X pins H' S → LS s'.heap S ts' → Tr H' xs cs ts' cs.length → R (.ok (.ret res)) s') →
    codeAny (model X.prog X.w) A (.builtin "list.extend.loop" ⟨[.ref S, .ref it, res], []⟩) R s := by
  intro k
  induction k with
  | zero =>
    intro i s H ts hk hi I fi fp fS tn ⟨acc, c, hS, hac⟩ tr hR
    have ei : i = cs.length := by omega
    subst ei
    refine codeAny_builtin F.entry_extend_loop ?_
    rw [Around.under_plainId F.plain_extend_loop _]
    show wpAny _ A.in1 (pyNext (.ref it) >>= _) _ _ s
    refine wpAny_bind (end_cmb (A := A.in1) hh rv C I fi tn fun h' I' kp => ?_)
    exact wpAny_pure (hR H _ ts (Evl.Ex.refl H) (fun T a b => absurd a b) I' fS ⟨acc, c, kp S _ n1 hS, hac⟩ tr)
  | succ k ih =>
    intro i s H ts hk hi I fi fp fS tn ⟨acc, c, hS, hac⟩ tr hR
    have hlt : i < cs.length := by omega
    refine codeAny_builtin F.entry_extend_loop ?_
    rw [Around.under_plainId F.plain_extend_loop _]
    show wpAny _ A.in1 (pyNext (.ref it) >>= _) _ _ s
    refine wpAny_bind (step_cmb (A := A.in1) rv C I fi fp tn hlt fun h' I' hT tn' kp => ?_)
    have hS' := kp S _ n1 hS
    have lS : S < s.heap.objs.size := Heap.lt_size hS
    obtain ⟨_, ti, ⟨_, tp, _⟩, _⟩ := id tn
    have li : it < s.heap.objs.size := Heap.lt_size ti
    have lp : p < s.heap.objs.size := Heap.lt_size tp
    show wpAny _ A.in1 (updateSeq S (·.push (.ref s.heap.objs.size)) >>= _) _ _ _
    have sz1 : acc.size = i := by rw [← Array.length_toList, hac, List.length_map, tr.1]
    refine wpAny_bind (wpAny_updateSeq hS' rfl (wpAny_pure ⟨plainId_quiet F.plain_extend_loop _, ?_⟩) (by rw [sz1, sizeLine_eq]; omega) (by show (Array.push _ _).size ≤ _; rw [Array.size_push, sz1, sizeLine_eq]; omega))
    have hS2 := Heap.get?_update_self (Obj.mapSeq (·.push (Value.ref s.heap.objs.size))) hS' rfl
    have oth : ∀ b o, b ≠ S → h'.get? b = some o → (h'.update S (Obj.mapSeq (·.push (Value.ref s.heap.objs.size)))).get? b = some o := fun b o hb e => (Heap.get?_update_other _ _ (Ne.symm hb)).trans e
    have fi' : FpOk X pins (upd H s.heap.objs.size (.tup (pickV xs cs[i]))) it := fp_upd fi (Nat.ne_of_lt li)
    have fp' : FpOk X pins (upd H s.heap.objs.size (.tup (pickV xs cs[i]))) p := fp_upd fp (Nat.ne_of_lt lp)
    have fS' : FpOk X pins (upd H s.heap.objs.size (.tup (pickV xs cs[i]))) S := fp_upd fS (Nat.ne_of_lt lS)
    obtain ⟨f0, f1, f2, f3, f4, f5⟩ := id fS'
    have I2 := I'.turned (t' := s.toks) oth f0 f1 f3 f4 f5
    have eT : Evl.Ex H (upd H s.heap.objs.size (.tup (pickV xs cs[i]))) := Evl.Ex.new hT
    have nwT : ∀ {ts' : List Addr}, (∀ T, T ∈ ts' → T ∉ ts ++ [s.heap.objs.size] → upd H s.heap.objs.size (.tup (pickV xs cs[i])) T = none) → ∀ T, T ∈ ts' → T ∉ ts → H T = none := fun {ts'} nw T a b => by
      by_cases z : T = s.heap.objs.size
      · rw [z]
        exact hT
      · have w := nw T a fun q => (List.mem_append.mp q).elim b fun q => z (List.mem_singleton.mp q)
        rw [upd_ne z] at w
        exact w
    refine ih (i + 1) _ _ (ts ++ [s.heap.objs.size]) (by omega) hlt I2 fi' fp' fS' ?_ ?_ ⟨by rw [List.length_append, tr.1]; rfl, fun j ix T h1 h2 => ?_⟩ fun H' s' ts' e nw I3 f3 hS3 tr3 => hR H' s' ts' (eT.trans e) (fun T a b => nwT nw T a b) I3 f3 hS3 tr3
    · obtain ⟨last, g1, ⟨o, g2, g3⟩, g4, g5⟩ := tn'
      exact ⟨last, oth it _ (Ne.symm n1) g1, ⟨o, oth p _ (Ne.symm n2) g2, g3⟩, g4, g5⟩
    · exact ⟨_, _, hS2, by rw [Array.toList_push, hac, List.map_append]; rfl⟩
    · by_cases lj : j < ts.length
      · rw [List.getElem?_append_left lj] at h2
        exact eT _ _ (tr.2 j ix T h1 h2)
      · rw [List.getElem?_append_right (by omega)] at h2
        have ej : j = ts.length := by
          have := (List.getElem?_eq_some_iff.mp h2).1
          rw [List.length_singleton] at this
          omega
        rw [ej, Nat.sub_self] at h2
        cases h2
        rw [ej, tr.1, List.getElem?_eq_getElem hlt] at h1
        cases h1
        exact upd_same
theorem refs_vals : ∀ ts : List Addr, Vals (ts.map V.ref) (ts.map Value.ref)
  | [] => .nil
  | _ :: ts => .cons rfl (refs_vals ts)
/-- list(it), it a combinations object that nobody has walked -/
theorem list_cmb {A : Around} {E : Value → Shared → Prop} {H : Hp} {s : Shared} {it p : Addr} {Q : Value → Shared → Prop} (hh : A.handled = none) (rv : Vals xs its) (C : Chain xs.length r cs) (hn : cs.length ≤ 100000) (I : Inv X pins σ H s) (fi : FpOk X pins H it) (fp : FpOk X pins H p) (tn : tnC it p its cs 0 s.heap)
    (q : ∀ H' s' ts S, Evl.Ex H H' → (∀ T, T ∈ ts → H T = none) → H' S = none → H S = none → Inv X pins σ (upd H' S (.lst (ts.map V.ref))) s' → Tr H' xs cs ts cs.length → Q (.ref S) s') : wpAny (model X.prog X.w) A (call (.type "list") [.ref it]) Q E s := by
  obtain ⟨last, ti, ⟨op, tp, tp2⟩, ne, le⟩ := id tn
  have li : it < s.heap.objs.size := Heap.lt_size ti
  have lp : p < s.heap.objs.size := Heap.lt_size tp
  refine callType_codes (Q₁ := fun obj s₁ => obj = .ref s.heap.objs.size ∧ s₁ = { s with heap := s.heap.push { cls := .type "list", data := .seq #[] } }) PySem.F.called_list (PySem.F.typeCall_list_1 _) PySem.F.entry_list_init
    (code_list_new _ ⟨rfl, rfl⟩) fun obj s₁ h₁ => ?_
  obtain ⟨rfl, rfl⟩ := h₁
  have hS : (s.heap.push { cls := .type "list", data := .seq #[] }).get? s.heap.objs.size = some { cls := .type "list", data := .seq #[] } := Heap.get?_push_size _ rfl
  refine ⟨⟨_, hS, rfl⟩, PySem.F.args_list_init_2 _ _, ?_⟩
  have fS : FpOk X pins H s.heap.objs.size := I.fpOk (Nat.le_refl _) (I.hok.fresh (Nat.le_refl _))
  obtain ⟨f0, f1, f2, f3, f4, f5⟩ := id fS
  have I1 : Inv X pins σ H { s with heap := s.heap.push { cls := .type "list", data := .seq #[] } } := I.kept (t' := s.toks) fun b o e => Heap.get?_push_of_some _ e
  show wpAny _ _ (do let old ← Builtin.List.listItems (.ref s.heap.objs.size); Builtin.List.listUpdate (.ref s.heap.objs.size) (fun _ => #[]); letGo old.toList.reverse; Builtin.List.listExtendWith (.ref s.heap.objs.size) (.ref it) .none) _ _ _
  refine wpAny_bind ?_
  unfold Builtin.List.listItems
  refine wpAny_bind (wpAny_seqItems hS rfl (wpAny_pure ?_))
  refine wpAny_bind ?_
  show wpAny _ _ (updateSeq s.heap.objs.size (fun _ => #[])) _ _ _
  refine wpAny_updateSeq hS rfl ?_
  have hS2 := Heap.get?_update_self (Obj.mapSeq (fun _ => (#[] : Array Value))) hS rfl
  refine wpAny_bind (wpAny_letGo ?_)
  have nSi : it ≠ s.heap.objs.size := Nat.ne_of_lt li
  have nSp : p ≠ s.heap.objs.size := Nat.ne_of_lt lp
  unfold Builtin.List.listExtendWith
  have k1 : ∀ b o, b ≠ s.heap.objs.size → (s.heap.push { cls := .type "list", data := .seq #[] }).get? b = some o → ((s.heap.push { cls := .type "list", data := .seq #[] }).update s.heap.objs.size (Obj.mapSeq (fun _ => (#[] : Array Value)))).get? b = some o := fun b o hb e => (Heap.get?_update_other _ _ (Ne.symm hb)).trans e
  have ti1 := k1 it _ nSi (Heap.get?_push_of_some _ ti)
  have I2 := I1.turned (t' := s.toks) k1 f0 f1 f3 f4 f5
  refine wpAny_bind (wpAny_typeOf (T := ty) ⟨_, ti1, rfl⟩ ?_)
  have h1 : Builtin.List.listSameRef (.ref s.heap.objs.size) (.ref it) = false := by simp [Builtin.List.listSameRef, Ne.symm nSi]
  rw [if_neg (by rw [h1]; decide)]
  refine wpAny_bind (iter_cmb ti1 ?_)
  refine wpAny_bind (wpAny_holding ?_)
  unfold Builtin.List.listLengthHint
  refine wpAny_bind (wpAny_specialOf (T := ty) ⟨_, ti1, rfl⟩ noLenC ?_)
  show wpAny _ _ (specialOf (Value.ref it) (Str.ofString "__length_hint__") >>= _) _ _ _
  refine wpAny_bind (wpAny_specialOf (T := ty) ⟨_, ti1, rfl⟩ noHintC ?_)
  refine wpAny_pure ?_
  show wpAny _ _ (rule "list.extend.makes-room" >>= fun _ => Builtin.List.listTouch (.ref s.heap.objs.size) >>= fun _ => again (.builtin "list.extend.loop" ⟨[.ref s.heap.objs.size, .ref it, .none], []⟩)) _ _ _
  refine wpAny_bind (wpAny_rule ?_)
  refine wpAny_bind ?_
  show wpAny _ _ (updateSeq s.heap.objs.size (·.push .none) >>= fun _ => updateSeq s.heap.objs.size (·.pop)) _ _ _
  refine wpAny_bind (wpAny_updateSeq hS2 rfl ?_)
  have hS3 := Heap.get?_update_self (Obj.mapSeq (·.push Value.none)) hS2 rfl
  refine wpAny_updateSeq (hz := by seq_fits) hS3 rfl ?_
  have hS4 := Heap.get?_update_self (Obj.mapSeq (·.pop)) hS3 rfl
  have k2 : ∀ b o, b ≠ s.heap.objs.size → ((s.heap.push { cls := .type "list", data := .seq #[] }).update s.heap.objs.size (Obj.mapSeq (fun _ => (#[] : Array Value)))).get? b = some o → ((((s.heap.push { cls := .type "list", data := .seq #[] }).update s.heap.objs.size (Obj.mapSeq (fun _ => (#[] : Array Value)))).update s.heap.objs.size (Obj.mapSeq (·.push Value.none))).update s.heap.objs.size (Obj.mapSeq (·.pop))).get? b = some o := fun b o hb e =>
    (Heap.get?_update_other _ _ (Ne.symm hb)).trans ((Heap.get?_update_other _ _ (Ne.symm hb)).trans e)
  have I3 := I2.turned (t' := s.toks) k2 f0 f1 f3 f4 f5
  refine wpAny_pure ⟨plainId_quiet PySem.F.plain_extend_loop _, ?_⟩
  refine loop_cmb (A := A.in1) hh rv C hn (Ne.symm nSi) (Ne.symm nSp) .none _ 0 _ H [] rfl (Nat.zero_le _) I3 fi fp fS ⟨last, k2 it _ nSi ti1, ⟨op, k2 p _ nSp (k1 p _ nSp (Heap.get?_push_of_some _ tp)), tp2⟩, ne, le⟩ ⟨_, _, hS4, rfl⟩ ⟨rfl, fun j ix T _ z => nomatch z⟩ fun H' s' ts' e nw I4 f4' ⟨acc, c, hL, hacc⟩ tr => ?_
  refine ⟨rfl, q H' s' ts' _ e (fun T a => nw T a (by simp)) f4'.1 f0 (caught I4 f4' ⟨?_, acc.toList, c, ?_, ?_⟩) tr⟩
  · rw [List.length_map, tr.1, sizeLine_eq]
    omega
  · rw [hacc]
    exact refs_vals ts'
  · rw [Array.toArray_toList]
    exact hL
end
end Cmb


set_option Elab.async false
set_option autoImplicit false
set_option linter.all false
set_option maxRecDepth 100000
set_option maxHeartbeats 4000000
namespace Cmb
open PySem PySem.Spec PyProof.Rows L2
section
variable {X : Cx}
abbrev rgObj (a b c : Value) : Obj := { cls := .type "range", data := .fields #[a, b, c] }
theorem pool_range {s : Shared} {rr : Addr} {m : Nat} {t u v : Tok} (g : s.heap.get? rr = some (rgObj (.int 0 t) (.int (m : Int) u) (.int 1 v))) (hm : m ≤ 1000) : Pool X (rgV 0 (m : Int)) (.ref rr) s := fun A E Q hh q => by
  have e : ((m : Int) - 0).toNat = m := by omega
  refine collect_range (n := m) hh (show IsRange s.heap rr 0 (m : Int) 1 t u v from g) (small_one (by omega) (by omega) (by omega) (by omega)) ?_ (by omega) fun h' tk acc hk hi => q h' tk acc.toList ?_ hk
  · rw [← e]
    have z := rangeSize_nat 0 (m : Int)
    rw [e] at z ⊢
    exact z
  · refine vals_rg ?_
    rw [e]
    exact hi
/-- list(combinations(range(a), b)) -/
def tLcr (ta tb : TE) : TE := fun σ H Q => ta σ H fun x H1 => ∃ m : Nat, x = .int (m : Int) ∧ m ≤ 1000 ∧ tb σ H1 fun y H2 => ∃ (r : Nat) (cs : List (List Nat)), y = .int (r : Int) ∧ r ≤ m ∧ Chain m r cs ∧ cs.length ≤ 100000 ∧
  ∀ H3 ts S, Evl.Ex H2 H3 → (∀ T, T ∈ ts → H2 T = none) → H3 S = none → H2 S = none → Tr H3 (rgV 0 (m : Int)) cs ts cs.length → Q (.ref S) (upd H3 S (.lst (ts.map V.ref)))
theorem pe_lcr {a b : Expr} {ta tb : TE} {x : Str} {p1 p2 p3 q1 q2 q3 : Pos} (hc : X.calm = true) (hgl : Gl X "list") (hml : X.mg "list" = none) (hgr : Gl X "range") (hmr : X.mg "range" = none) (hgx : Gl X x) (hmx : X.mg x = some (.type ty)) (ha : PE X a ta) (hb : PE X b tb)
    (hd : (x == ("__debug__" : Str)) = false := by decide)
    (na : starEach [a] X.env = (false, eval a X.env) :: starEach [] X.env := by rfl)
    (nb : starEach [b] X.env = (false, eval b X.env) :: starEach [] X.env := by rfl) (hp : (backTo q2 (starEach [b] X.env)).any (·.1) = false := by rfl)
    (n2 : starEach [.Call (.Name "range" p3) [a] [] q3, b] X.env = (false, eval (.Call (.Name "range" p3) [a] [] q3) X.env) :: starEach [b] X.env := by rfl)
    (n1 : starEach [.Call (.Name x p2) [.Call (.Name "range" p3) [a] [] q3, b] [] q2] X.env = (false, eval (.Call (.Name x p2) [.Call (.Name "range" p3) [a] [] q3, b] [] q2) X.env) :: starEach [] X.env := by rfl) :
    PE X (.Call (.Name "list" p1) [.Call (.Name x p2) [.Call (.Name "range" p3) [a] [] q3, b] [] q2] [] q1) (tLcr ta tb) := by
  refine ⟨fun pins s σ H Q I h => ?_⟩
  refine Call_ (ld_blt I hgl hml boot_list (PyProof.Rows.callWith_type1 (args_cons ?_ n1) n1))
  refine Call_ (ld_glob I hgx hmx (PyProof.Rows.callWith_type1 (args_cons ?_ n2) n2 hp) hd)
  refine Call_ (ld_blt I hgr hmr boot_range (PyProof.Rows.callWith_type1 (one_arg ha I h (fun v s2 x H1 I1 r q => ?_) na) na))
  obtain ⟨m, rfl, hm, q⟩ := q
  obtain ⟨t, rfl⟩ := r
  refine call_range_1 ?_
  have I2 : Inv X pins σ H1 { s2 with heap := s2.heap.push (rgObj (.int 0 s2.toks) (.int (m : Int) t) (.int 1 (s2.toks + 1))), toks := s2.toks + 1 + 1 } := I1.kept fun b o e => Heap.get?_push_of_some _ e
  have f := I1.fpOk (H' := H1) (Nat.le_refl _) (I1.hok.fresh (Nat.le_refl _))
  have I3 : Inv X ((s2.heap.objs.size, rgObj (.int 0 s2.toks) (.int (m : Int) t) (.int 1 (s2.toks + 1))) :: pins) σ H1 { s2 with heap := s2.heap.push (rgObj (.int 0 s2.toks) (.int (m : Int) t) (.int 1 (s2.toks + 1))), toks := s2.toks + 1 + 1 } := I2.pins_of fun p hp => by
    rcases List.mem_cons.mp hp with e | hp
    · rw [e]
      exact ⟨Heap.get?_push_size _ rfl, f.1, f.2.1, f.2.2.1, fun v z => nomatch z⟩
    · exact I2.pin p (List.mem_append_right _ hp)
  refine one_arg hb I3 q (fun u s3 y H2 I4 r q => ?_) nb
  obtain ⟨k, cs, rfl, hk, C, hn, q⟩ := q
  obtain ⟨t2, rfl⟩ := r
  have g := (I4.pin (s2.heap.objs.size, rgObj (.int 0 s2.toks) (.int (m : Int) t) (.int 1 (s2.toks + 1))) (List.mem_append_right _ List.mem_cons_self)).1
  have I5 : Inv X pins σ H2 s3 := I4.pins_of fun p hp => I4.pin p (List.mem_append_right _ (List.mem_cons_of_mem _ hp))
  have el : (rgV 0 (m : Int)).length = m := by
    rw [rgV_length]
    omega
  refine cmb_it hc I5 (pool_range g hm) (by rw [el, sizeLine_eq]; omega) (by omega) (by rw [el]; exact hk) (by rw [el]; exact C) fun it p its h' tk rv I6 f1 f2 tn lt => args_nil ?_
  rw [← el] at C
  exact list_cmb (I6.ok.hd hc) rv C hn I6 f1 f2 tn fun H' s' ts S e nw hS hS0 I7 tr => ⟨.ref S, _, I7, rfl, q H' ts S e nw hS hS0 tr⟩
end
end Cmb


set_option Elab.async false
set_option autoImplicit false
set_option linter.all false
set_option maxRecDepth 100000
set_option maxHeartbeats 4000000
namespace Cmb
open PySem PySem.Spec PyProof.Rows L2
/-- all parts of so many members, in the order of the places -/
def subs {α : Type} : List α → Nat → List (List α)
  | _, 0 => [[]]
  | [], _ + 1 => []
  | a :: l, r + 1 => (subs l r).map (a :: ·) ++ subs l (r + 1)
def stepOk (n : Nat) (cs : List (List Nat)) (k : Nat) : Bool :=
  match cs[k]?, cs[k + 1]? with
  | some a, some b => nx n a == some b
  | some a, none => nx n a == none
  | none, _ => true
def chk (n r : Nat) (cs : List (List Nat)) : Bool := cs[0]? == some (List.range r) && (List.range cs.length).all (stepOk n cs) && cs.all fun c => decide (c.length ≤ 1000) && c.all fun i => decide (i < n)
theorem chain_of {n r : Nat} {cs : List (List Nat)} (h : chk n r cs = true) : Chain n r cs := by
  unfold chk at h
  rw [Bool.and_eq_true, Bool.and_eq_true] at h
  obtain ⟨⟨h1, h2⟩, h3⟩ := h
  rw [List.all_eq_true] at h2 h3
  have h1 : cs[0]? = some (List.range r) := by simpa using h1
  have go : ∀ k a, cs[k]? = some a → stepOk n cs k = true := fun k a e => h2 k (List.mem_range.mpr (List.getElem?_eq_some_iff.mp e).1)
  have all : ∀ c, c ∈ cs → c.length ≤ 1000 ∧ ∀ i, i ∈ c → i < n := fun c hc => by
    have z := h3 c hc
    rw [Bool.and_eq_true, List.all_eq_true] at z
    exact ⟨of_decide_eq_true z.1, fun i hi => of_decide_eq_true (z.2 i hi)⟩
  refine ⟨h1, fun k a b ha hb => ?_, fun a ha => ?_, fun c hc => (all c hc).1, fun c hc => (all c hc).2⟩
  · have z := go k a ha
    unfold stepOk at z
    rw [ha, hb] at z
    simpa using z
  · have z := go _ a ha
    unfold stepOk at z
    have pos : 0 < cs.length := (List.getElem?_eq_some_iff.mp h1).1
    have e : cs[cs.length - 1 + 1]? = none := List.getElem?_eq_none (by omega)
    rw [ha, e] at z
    simpa using z
theorem chk7 : ∀ n, n < 9 → ∀ r, r < 9 → r ≤ n → chk n r (subs (List.range n) r) = true ∧ (subs (List.range n) r).length ≤ 1000 := by decide +kernel
theorem chain8 {n r : Nat} (h : n ≤ 8) (hr : r ≤ n) : Chain n r (subs (List.range n) r) := chain_of (chk7 n (by omega) r (by omega) hr).1
theorem len8 {n r : Nat} (h : n ≤ 8) (hr : r ≤ n) : (subs (List.range n) r).length ≤ 1000 := (chk7 n (by omega) r (by omega) hr).2
end Cmb


set_option Elab.async false
set_option autoImplicit false
set_option linter.all false
set_option maxRecDepth 100000
set_option maxHeartbeats 4000000
namespace Ly
open PySem PySem.Spec PyProof.Rows L2 Cmb
open Evl (Ex)
def pickD (ds : List Da) (ix : List Nat) : List Da := ix.map (nth ds)
theorem pick_reps {K : PySem.W.Frag} {B : Hp} {xs : List V} {ds : List Da} (r : Reps K B xs ds) : ∀ {ix : List Nat}, (∀ i, i ∈ ix → i < xs.length) → Reps K B (pickV xs ix) (pickD ds ix)
  | [], _ => .nil
  | i :: ix, h => by
    have hi := h i List.mem_cons_self
    obtain ⟨d, hd, rd⟩ := r.got (List.getElem?_eq_getElem hi)
    refine .cons ?_ (pick_reps r fun j hj => h j (List.mem_cons_of_mem _ hj))
    show Rep K B ((xs[i]?).getD .non) (nth ds i)
    rw [nth_at hd, List.getElem?_eq_getElem hi]
    exact rd
theorem rg_reps {K : PySem.W.Frag} {B : Hp} {m : Nat} : ∀ {ix : List Nat}, (∀ i, i ∈ ix → i < m) → Reps K B (pickV (rgV 0 (m : Int)) ix) (ix.map fun (i : Nat) => .int (i : Int))
  | [], _ => .nil
  | i :: ix, h => by
    have hi := h i List.mem_cons_self
    refine .cons ?_ (rg_reps fun j hj => h j (List.mem_cons_of_mem _ hj))
    show Rep K B (((rgV 0 (m : Int))[i]?).getD .non) (.int (i : Int))
    have e : (rgV 0 (m : Int))[i]? = some (.int (i : Int)) := by
      unfold rgV
      rw [List.getElem?_map, List.getElem?_range (by omega), Option.map_some, Int.zero_add]
    rw [e]
    exact .int _
theorem subs_map {α β : Type} (f : α → β) : ∀ (l : List α) (r : Nat), subs (l.map f) r = (subs l r).map (List.map f)
  | _, 0 => by simp [subs]
  | [], r + 1 => by simp [subs]
  | a :: l, r + 1 => by
    rw [List.map_cons]
    unfold subs
    rw [subs_map f l r, subs_map f l (r + 1)]
    simp [List.map_map, Function.comp_def]
theorem nth_range (ds : List Da) : ds = (List.range ds.length).map (nth ds) := by
  refine List.ext_getElem? fun i => ?_
  by_cases h : i < ds.length
  · rw [List.getElem?_map, List.getElem?_range h, Option.map_some, List.getElem?_eq_getElem h, nth_at (List.getElem?_eq_getElem h)]
  · rw [List.getElem?_eq_none (by omega), List.getElem?_eq_none (by rw [List.length_map, List.length_range]; omega)]
theorem subs_pick (ds : List Da) (r : Nat) : subs ds r = (subs (List.range ds.length) r).map (pickD ds) := by
  have e := subs_map (nth ds) (List.range ds.length) r
  rw [← nth_range] at e
  exact e
section
variable {c : Ctx} {ρ : List Cell} {n : Nat} {ta tb : TE} {tr : TA} {ds : List Da}
/-- list(combinations(range(a), b)) -/
theorem d_lcr {m r : Nat} (ha : EvD c ta ρ (.int (m : Int))) (hb : EvD c tb ρ (.int (r : Int))) (hm : m ≤ 8) (hr : r ≤ m) : EvD c (tLcr ta tb) ρ (.lst ((subs (List.range m) r).map fun ix => .tup (ix.map fun (i : Nat) => .int (i : Int)))) := fun B H σ n G Q q => by
  refine ha B H σ n G _ fun v B1 H1 s1 j1 r1 => ?_
  cases r1
  refine ⟨m, rfl, by omega, hb B1 H1 σ n (G.step s1 j1) _ fun w B2 H2 s2 j2 r2 => ?_⟩
  cases r2
  have C := chain8 hm hr
  refine ⟨r, _, rfl, hr, C, by have := len8 hm hr; omega, fun H3 ts S e nw hS hS0 tr => ?_⟩
  have s12 := s1.trans (jnF j1) s2
  classical
  have eU : Ex H2 (upd H3 S (.lst (ts.map V.ref))) := e.trans (Ex.new hS)
  let B' : Hp := fun a => if H2 a = none then upd H3 S (.lst (ts.map V.ref)) a else B2 a
  have old : ∀ {a : Addr}, H2 a ≠ none → B' a = B2 a := fun h => if_neg h
  have new : ∀ {a : Addr}, H2 a = none → B' a = upd H3 S (.lst (ts.map V.ref)) a := fun h => if_pos h
  have st : Step c B2 H2 B' (upd H3 S (.lst (ts.map V.ref))) := by
    refine ⟨fun a o h => ?_, fun a o h => ?_, ExF.of eU, fun a h1 h2 => by rw [old h2]; exact h1⟩
    · rw [old (by rw [s2.bh a o h]; exact fun z => nomatch z)]
      exact h
    · by_cases z : H2 a = none
      · rw [new z] at h
        exact h
      · rw [old z] at h
        exact eU _ _ (s2.bh a o h)
  have bS : B' S = some (.lst (ts.map V.ref)) := by
    rw [new hS0, upd_same]
  refine q (.ref S) B' _ (s12.trans (jnF j2) st) (J.up j2 eU) (.lst bS ?_)
  have key : ∀ (cs : List (List Nat)) (ts : List Addr), ts.length = cs.length → (∀ T, T ∈ ts → H2 T = none) → (∀ T, T ∈ ts → T ≠ S) → (∀ (j : Nat) (ix : List Nat) (T : Addr), cs[j]? = some ix → ts[j]? = some T → H3 T = some (.tup (pickV (rgV 0 (m : Int)) ix))) →
      (∀ ix, ix ∈ cs → ∀ i, i ∈ ix → i < m) → Reps c.K B' (ts.map V.ref) (cs.map fun ix => .tup (ix.map fun (i : Nat) => .int (i : Int))) := by
    intro cs
    induction cs with
    | nil =>
      intro ts hl _ _ _ _
      cases ts with
      | nil => exact .nil
      | cons a b => cases hl
    | cons ix cs ih =>
      intro ts hl h1 h2 h3 h4
      cases ts with
      | nil => cases hl
      | cons T ts =>
        refine .cons ?_ (ih ts (Nat.succ.inj hl) (fun T h => h1 T (List.mem_cons_of_mem _ h)) (fun T h => h2 T (List.mem_cons_of_mem _ h)) (fun j ix T a b => h3 (j + 1) ix T a b) fun ix h => h4 ix (List.mem_cons_of_mem _ h))
        have t0 := h3 0 ix T rfl rfl
        have b0 : B' T = some (.tup (pickV (rgV 0 (m : Int)) ix)) := by
          rw [new (h1 T List.mem_cons_self), upd_ne (h2 T List.mem_cons_self)]
          exact t0
        exact .tup (SqT.of b0) (rg_reps (h4 ix List.mem_cons_self))
  refine key _ ts tr.1 nw (fun T h z => ?_) tr.2 C.lt
  obtain ⟨j, hj⟩ := List.getElem?_of_mem h
  have lj : j < (subs (List.range m) r).length := by
    rw [← tr.1]
    exact (List.getElem?_eq_some_iff.mp hj).1
  have t := tr.2 j _ T (List.getElem?_eq_getElem lj) hj
  rw [z, hS] at t
  cases t
/-- for .. in combinations(xs, r), xs a list -/
theorem wk_cmbL {r : Nat} (h : EvA c tr ρ [.lst ds, .int (r : Int)]) (hl : ds.length ≤ 8) (hr : r ≤ ds.length) : Wk c (iCmbL c.K tr) ρ n (Just n (subs ds r).length fun k => .tup ((subs ds r).getD k [])) := fun B H σ G S q => h B H σ n G _ fun vs B1 H1 s j rv => by
  cases rv with
  | cons r1 r2 =>
    cases r2 with
    | cons r2 r3 =>
      cases r3
      cases r2
      cases r1 with
      | @lst a xs _ hb hx =>
        have C := chain8 (n := xs.length) (r := r) (by rw [hx.len]; exact hl) (by rw [hx.len]; exact hr)
        have es : (subs ds r).length = (subs (List.range xs.length) r).length := by rw [subs_pick, List.length_map, hx.len]
        refine ⟨a, xs, r, _, rfl, SqL.of (s.bh _ _ hb), by omega, by rw [hx.len]; exact hr, C, ?_⟩
        refine q _ _ _ _ B1 H1 ⟨rfl, rfl, rfl⟩ s j (fun H' e k => ⟨fun lt => ?_, fun ek => ?_⟩) fun H' k x H'' B' n' lt e e' j' y => ?_
        · rw [es] at lt
          exact lt
        · rw [es] at ek
          exact Nat.le_of_eq ek.symm
        · obtain ⟨T, ix, rfl, hix, hT, rfl⟩ := y
          have st : Step c B' H' (upd B' T (.tup (pickV xs ix))) (upd H' T (.tup (pickV xs ix))) := step_new e' hT
          refine ⟨_, st, J.up j' (Ex.new hT), ?_⟩
          have ed : (subs ds r).getD k [] = pickD ds ix := by
            rw [List.getD_eq_getElem?_getD, subs_pick, ← hx.len, List.getElem?_map, hix]
            rfl
          show Rep c.K _ _ (.tup ((subs ds r).getD k []))
          rw [ed]
          exact .tup (SqT.of upd_same) (pick_reps ((hx.up e).up st.eb) fun i hi => C.lt ix (List.mem_of_getElem? hix) i hi)
end
end Ly


set_option Elab.async false
set_option autoImplicit false
set_option linter.all false
set_option maxRecDepth 100000
set_option maxHeartbeats 4000000
/-! one clause of a comprehension, whatever its turn does; a dict by two clauses -/
namespace Cmb
open PySem PySem.Spec PyProof.Rows L2
def clTree (p : Pos) (tg : Expr) (it : Value) (env : Env) (body : Sem PySem.Fin) : Sem PySem.Fin := do
  standAt p
  let r ← pyNext it
  match r with
  | none => pure (.done .next)
  | some v => do
    letOwnedTupleGo tg it v
    assign tg env v
    body
/-- τ knows what σ knows -/
def Kn (σ τ : L2.St) : Prop := σ.length = τ.length ∧ ∀ (j : Nat) (v : V), σ[j]? = some (some v) → τ[j]? = some (some v)
theorem Kn.refl (σ : L2.St) : Kn σ σ := ⟨rfl, fun _ _ h => h⟩
theorem Kn.trans {a b c : L2.St} (h : Kn a b) (k : Kn b c) : Kn a c := ⟨h.1.trans k.1, fun j v e => k.2 j v (h.2 j v e)⟩
theorem Kn.wipes (σ : L2.St) (vs : List Nat) : Kn (wipe σ vs) σ := ⟨wipe_length _ _, fun _ _ e => (wipe_some e).1⟩
/-- the walk of a clause -/
def Wlk (J : It) (W : Nat → Nat → Hp → Prop) (Fn : Hp → Prop) (Tn : (Hp → Prop) → V → Hp → Prop) : Prop :=
  ∀ i m H, W i m H → (J.stop i H ∧ Fn H) ∨ (J.go i H ∧ ∃ Nx : Hp → Prop, (∀ H', Nx H' → ∃ m', m' < m ∧ W (i + 1) m' H') ∧ ∀ x H', J.yld i H x H' → Tn Nx x H')
theorem clause {Y : Cx} (hc : Y.calm = true) (hx : ∀ v s, Y.xe v s → False) {e tg : Expr} {k : Nat} {it : Addr} {acc : Value} {p : Pos} {body : Sem PySem.Fin} {R : Result → Shared → Prop} {J : It} {fp : List Addr} {tn : Nat → Heap → Prop} {g : TG} {pins : List (Addr × Obj)} {σ : L2.St} {Bd : (Hp → Prop) → L2.St → Hp → Prop}
    (hq : (Code.compLoop e k (.ref it) acc Y.env).quiet = true) (den : (model Y.prog Y.w).den (Code.compLoop e k (.ref it) acc Y.env) = (clTree p tg (.ref it) Y.env body).onRaise (fun x => do noteFrame x Y.env; theTreesLotGoes x))
    (und : Y.A.under (Code.compLoop e k (.ref it) acc Y.env) = Y.A)
    (T : Turn Y.prog Y.w Y.K tg J fp it tn) (pg : PG Y tg g) (fok : ∀ H' : Hp, (∀ b, b ∈ fp → H' b = none) → ∀ b, b ∈ fp → FpOk Y pins H' b) (W : Nat → Nat → Hp → Prop) (Fn : Hp → Prop)
    (walk : Wlk J W Fn fun Nx x H' => g x σ H' fun τ H2 => Kn σ τ ∧ Bd Nx τ H2)
    (turn : ∀ (Nx : Hp → Prop) (pl : List (Addr × Obj)) (τ : L2.St) (H2 : Hp) (s : Shared), Inv Y (pins ++ pl) τ H2 s → Kn σ τ → Bd Nx τ H2 → wpAny (model Y.prog Y.w) Y.A body (fun f s' => f = .again (.compLoop e k (.ref it) acc Y.env) ∧ ∃ τ' H', Inv Y (pins ++ pl) τ' H' s' ∧ Kn σ τ' ∧ Nx H') (fun _ _ => False) s)
    (fin : ∀ s' H', Inv Y pins σ H' s' → Fn H' → R (.ok .next) s') {s : Shared} {H : Hp} {m : Nat} (I : Inv Y pins σ H s) (st : tn 0 s.heap) (fr : ∀ b, b ∈ fp → H b = none) (w0 : W 0 m H) : codeAny (model Y.prog Y.w) Y.A (.compLoop e k (.ref it) acc Y.env) R s := by
  refine codeAny_loop hq (fun n s' => ∃ i H', Inv Y pins σ H' s' ∧ tn i s'.heap ∧ (∀ b, b ∈ fp → H' b = none) ∧ W i n H') (fun n s1 h1 => ?_) m ⟨0, H, I, st, fr, w0⟩
  obtain ⟨i, H1, I1, st1, fr1, w1⟩ := h1
  rw [den, und]
  refine wpAny_noted ?_
  unfold clTree
  refine wpAny_bind (wpAny_standAt (wpAny_bind ?_))
  rcases walk i n H1 w1 with ⟨stop, q⟩ | ⟨go, Nx, hN, step⟩
  · refine thnF (T.done Y rfl rfl rfl hc i pins s1 σ H1 (fun _ _ => False) I1 (fok H1 fr1) st1 stop) fun r s2 ⟨hr, I2⟩ => ?_
    subst hr
    exact wpAny_pure (fin s2 H1 I2 q)
  · refine thnF (T.item Y rfl rfl rfl hc i pins s1 σ H1 (fun _ _ => False) I1 (fok H1 fr1) st1 go) fun r s2 ⟨u, hr, h2⟩ => ?_
    subst hr
    refine wpAny_bind (thnF h2 fun _ s3 ⟨x, H3, I3, r3, y3, st3, fr3⟩ => ?_)
    have I3' := I3.pinned (fok H3 fr3) (T.obj _ _ st3)
    have pgr := pg.run _ s3 σ H3 x u _ I3' r3 (step x H3 y3)
    refine wpAny_bind (wpAny_mono pgr (fun _ s4 ⟨τ, H4, I4, kn, bd⟩ => ?_) fun v s' z => (hx v s' z).elim)
    refine thnF (turn Nx _ τ H4 s4 I4 kn bd) fun f s5 ⟨hf, τ', H5, I5, kn5, nx⟩ => ?_
    subst hf
    refine ⟨rfl, ?_⟩
    obtain ⟨m', hm, w'⟩ := hN H5 nx
    have pin : ∀ b, b ∈ fp → ∀ o, s3.heap.get? b = some o → s5.heap.get? b = some o ∧ H5 b = none := fun b hb o q =>
      let z := I5.pin (b, o) (List.mem_append_right _ (List.mem_append_right _ (mem_pinsAt hb q)))
      ⟨z.1, z.2.1⟩
    have kk := kn5
    refine ⟨m', hm, i + 1, H5, (I5.unpinned (pins := pins)).weak kk.1 kk.2, T.keep _ _ _ st3 fun b hb o q => (pin b hb o q).1, fun b hb => ?_, w'⟩
    obtain ⟨o, q, _⟩ := T.obj _ _ st3 b hb
    exact (pin b hb o q).2
end Cmb


set_option Elab.async false
set_option autoImplicit false
set_option linter.all false
set_option maxRecDepth 100000
set_option maxHeartbeats 4000000
namespace Cmb
open PySem PySem.Spec PyProof.Rows L2
abbrev dcE (kx vx t0 i0 t1 i1 : Expr) (scope : Scope) (pos : Pos) : Expr := .DictComp kx vx [⟨t0, i0, [], 0⟩, ⟨t1, i1, [], 0⟩] scope pos
def inBody (kx vx : Expr) (D : Addr) (env : Env) : Sem Unit := do
  let kv ← eval kx env
  let vv ← holding [kv] (eval vx env)
  standAt { kx.pos with endLine := vx.pos.endLine, endCol := vx.pos.endCol }
  holding [kv, vv] (dictSet D kv vv)
def outBody (e i1 : Expr) (acc : Value) (env : Env) (c : Code) : Sem PySem.Fin := do
  let x ← eval i1 env
  standAt i1.pos
  let x ← foldedSetIterable i1 env x
  let it ← holding [x] (pyIter x)
  let _ ← runOwn (.compStart e 1 it acc env) env
  again c
section
variable {kx vx t0 i0 t1 i1 : Expr} {scope : Scope} {pos : Pos} {P : Program} {w : World} {it : Value} {D : Addr} {env : Env}
theorem den0 : (model P w).den (.compLoop (dcE kx vx t0 i0 t1 i1 scope pos) 0 it (.ref D) env) = (clTree i0.pos t0 it env (outBody (dcE kx vx t0 i0 t1 i1 scope pos) i1 (.ref D) env (.compLoop (dcE kx vx t0 i0 t1 i1 scope pos) 0 it (.ref D) env))).onRaise (fun x => do noteFrame x env; theTreesLotGoes x) := by rfl
theorem den1 : (model P w).den (.compLoop (dcE kx vx t0 i0 t1 i1 scope pos) 1 it (.ref D) env) = (clTree i1.pos t1 it env (do inBody kx vx D env; again (.compLoop (dcE kx vx t0 i0 t1 i1 scope pos) 1 it (.ref D) env))).onRaise (fun x => do noteFrame x env; theTreesLotGoes x) := by rfl
/-- the second clause is begun -/
theorem begin1 {A : Around} {R : Result → Shared → Prop} {s : Shared} (h0 : codeAny (model P w) A (.compLoop (dcE kx vx t0 i0 t1 i1 scope pos) 1 it (.ref D) env) R s)
    (h1 : wpAny (model P w) A (pyIter it) (fun u s1 => codeAny (model P w) A (.compLoop (dcE kx vx t0 i0 t1 i1 scope pos) 1 u (.ref D) env) R s1) (notedBy (model P w) A env fun x s1 => R (.error x) s1) s) :
    codeAny (model P w) A (.compStart (dcE kx vx t0 i0 t1 i1 scope pos) 1 it (.ref D) env) R s := by
  refine codeAny_of_tree ?_
  show wpAny _ A ((compStart (dcE kx vx t0 i0 t1 i1 scope pos) 1 it (.ref D) env).onRaise (fun x => do noteFrame x env; standAt theWindowsPlace)) _ _ s
  refine wpAny_notedAt ?_
  unfold compStart
  show wpAny _ A (ask >>= _) _ _ s
  refine wpAny_bind (wpAny_askSetting (wpAny_ite ?_))
  split
  · first | exact wpAny_pure ⟨rfl, h0⟩ | exact wpAny_bind (wpAny_pure (wpAny_pure ⟨rfl, h0⟩))
  · refine wpAny_bind (wpAny_rule ?_)
    show wpAny _ _ (standAt i1.pos >>= _) _ _ s
    exact wpAny_bind (wpAny_standAt (wpAny_bind (wpAny_mono h1 (fun u s1 z => wpAny_pure ⟨rfl, z⟩) fun _ _ z => z)))
end
section
variable {Y : Cx} {kx vx t0 i0 t1 i1 : Expr} {scope : Scope} {pos : Pos} {D : Addr} {wi1 : TI} {g1 : TG} {tk tv : TE}
def KvBd (D : Addr) (tk tv : TE) (Nx : Hp → Prop) (τ : L2.St) (H : Hp) : Prop := tk τ H fun y H6 => tv τ H6 fun z H7 => ∃ (kvs : List (L2.Key × V)) (k : L2.Key), y = kV k ∧ H7 D = some (.dK kvs) ∧ kvs.length < sizeLine ∧ Nx (upd H7 D (.dK (putK kvs k z)))
def InBd (D : Addr) (wi1 : TI) (g1 : TG) (tk tv : TE) (vs1 : List Nat) (Nx : Hp → Prop) (τ : L2.St) (H : Hp) : Prop :=
  wi1 τ H fun J1 H3 => ∃ (W1 : Nat → Nat → Hp → Prop) (m1 : Nat), W1 0 m1 H3 ∧ Wlk J1 W1 Nx fun Nx1 x1 H4 => g1 x1 (wipe τ vs1) H4 fun τ1 H5 => Kn (wipe τ vs1) τ1 ∧ KvBd D tk tv Nx1 τ1 H5
theorem in_turn (hx : ∀ v s, Y.xe v s → False) (pk : PE Y kx tk) (pv : PE Y vx tv) {pl : List (Addr × Obj)} {σ τ : L2.St} {H : Hp} {s : Shared} {Nx : Hp → Prop} {c : Code} (I : Inv Y pl τ H s) (kn : Kn σ τ) (h : KvBd D tk tv Nx τ H) :
    wpAny (model Y.prog Y.w) Y.A (do inBody kx vx D Y.env; again c) (fun f s' => f = .again c ∧ ∃ τ' H', Inv Y pl τ' H' s' ∧ Kn σ τ' ∧ Nx H') (fun _ _ => False) s := by
  have no : ∀ v s, Y.xe v s → (fun (_ : Value) (_ : Shared) => False) v s := fun v s z => hx v s z
  refine wpAny_bind ?_
  unfold inBody
  refine wpAny_bind (wpAny_mono (pk.run pl s τ H _ I h) (fun u s1 ⟨y, H1, I1, ry, h1⟩ => ?_) no)
  refine wpAny_bind (wpAny_holding (wpAny_mono (pv.run pl s1 τ H1 _ I1 h1) (fun u2 s2 ⟨z, H2, I2, rz, h2⟩ => ?_) no))
  obtain ⟨kvs, k, rfl, hD, hz, nx⟩ := h2
  refine wpAny_bind (wpAny_standAt (wpAny_holding (d_dictSet I2 hD hz ry rz fun s3 I3 => ?_)))
  exact wpAny_pure ⟨rfl, τ, _, I3, kn, nx⟩
theorem kn_wipe {σ τ : L2.St} {vs vs1 : List Nat} (h : Kn (wipe σ vs) τ) (hv : ∀ i, i ∈ vs1 → i ∈ vs) : Kn (wipe σ vs) (wipe τ vs1) :=
  ⟨h.1.trans (wipe_length _ _).symm, fun j v e => by
    obtain ⟨_, nj⟩ := wipe_some e
    rw [wipe_out fun z => nj (hv j z)]
    exact h.2 j v e⟩
theorem out_turn (hc : Y.calm = true) (hx : ∀ v s, Y.xe v s → False) (hs1 : ∀ x, foldedSetIterable i1 Y.env x = pure x) (pi1 : PI Y t1 i1 wi1) (pg1 : PG Y t1 g1) (pk : PE Y kx tk) (pv : PE Y vx tv) {pl : List (Addr × Obj)} {σ τ : L2.St} {vs vs1 : List Nat} (hv : ∀ i, i ∈ vs1 → i ∈ vs) {H : Hp} {s : Shared} {Nx : Hp → Prop} {c : Code}
    (I : Inv Y pl τ H s) (kn : Kn (wipe σ vs) τ) (h : InBd D wi1 g1 tk tv vs1 Nx τ H) :
    wpAny (model Y.prog Y.w) Y.A (outBody (dcE kx vx t0 i0 t1 i1 scope pos) i1 (.ref D) Y.env c) (fun f s' => f = .again c ∧ ∃ τ' H', Inv Y pl τ' H' s' ∧ Kn (wipe σ vs) τ' ∧ Nx H') (fun _ _ => False) s := by
  have no : ∀ v s, Y.xe v s → (fun (_ : Value) (_ : Shared) => False) v s := fun v s z => hx v s z
  unfold outBody
  refine wpAny_bind (wpAny_mono (pi1.run pl s τ H _ I h) (fun xv s1 h1 => ?_) no)
  refine wpAny_bind (wpAny_standAt (wpAny_bind (wpAny_of_eq (hs1 xv) (wpAny_bind (wpAny_holding (wpAny_mono h1 (fun itv s2 h2 => ?_) no))))))
  obtain ⟨it, fp, tn, J, H2, rfl, I2, T, st2, f2, W, m, w0, wk⟩ := h2
  refine wpAny_bind (wpAny_runOwn ?_)
  rw [Around.mark_none]
  have loop : codeAny (model Y.prog Y.w) Y.A (.compLoop (dcE kx vx t0 i0 t1 i1 scope pos) 1 (.ref it) (.ref D) Y.env) (fun r s' => match r with
      | .ok _ => ∃ τ' H', Inv Y pl τ' H' s' ∧ Kn (wipe σ vs) τ' ∧ Nx H'
      | .error _ => False) s2 :=
    clause (pins := pl) (σ := wipe τ vs1) (Bd := KvBd D tk tv) hc hx rfl den1 rfl T pg1 (fun H' nf b hb => ⟨nf b hb, (f2 b hb).2⟩) W Nx wk (fun Nx1 pl1 τ1 H5 s5 I5 k5 b5 => in_turn hx pk pv I5 k5 b5) (fun s' H' I' nx => ⟨_, H', I', kn_wipe kn hv, nx⟩)
      (I2.weak (wipe_length _ _) fun j v e => (wipe_some e).1) st2 (fun b hb => (f2 b hb).1) w0
  refine codeAny_mono (begin1 loop (T.self Y.A 0 _ _ _ st2 loop)) fun r s' z => ?_
  cases r with
  | ok f => exact wpAny_pure ⟨rfl, z⟩
  | error x => exact z.elim
end
end Cmb


set_option Elab.async false
set_option autoImplicit false
set_option linter.all false
set_option maxRecDepth 100000
set_option maxHeartbeats 4000000
namespace Cmb
open PySem PySem.Spec PyProof.Rows L2
section
variable {X : Cx}
def tDc2 (wi : TI) (g : TG) (wi1 : TI) (g1 : TG) (tk tv : TE) (vs vs1 : List Nat) : TE := fun σ H Q => wi σ H fun J H1 => ∀ D, H1 D = none → ∃ (W : Nat → Nat → Hp → Prop) (m : Nat), W 0 m (upd H1 D (.dK [])) ∧
  Wlk J W (fun H' => Q (.ref D) H') fun Nx x H' => g x (wipe σ vs) H' fun τ H2 => Kn (wipe σ vs) τ ∧ InBd D wi1 g1 tk tv vs1 Nx τ H2
/-- in the block's own context -/
abbrev InBlk (X : Cx) (scope : Scope) (F : Cx → Prop) : Prop := ∀ (s : Shared) (H : Hp) (C : Addr) (cl : List (Str × Addr)) (fp : List Addr), F (X.blk s H scope (compEnvC scope cl C X.env) fp)
theorem dc2_loop {kx vx t0 i0 t1 i1 : Expr} {scope : Scope} {vs vs1 : List Nat} {pos : Pos} {wi1 : TI} {g g1 : TG} {tk tv : TE} {pins : List (Addr × Obj)} {σ : L2.St} {s3 s4 : Shared} {H3 : Hp} {ce : Env} {fp : List Addr} {it D : Addr} {J : It} {tn : Nat → Heap → Prop} {Q : VK} {W : Nat → Nat → Hp → Prop} {m0 : Nat}
    (hc : X.calm = true) (I3 : Inv X pins σ H3 s3) (loc : ce.locals = s3.heap.objs.size) (I4 : Inv (X.blk s3 H3 scope ce fp) [] (wipe σ vs) H3 s4) (hv : ∀ i, i ∈ vs1 → i ∈ vs) (f3 : ∀ b, b ∈ fp → FpOk X pins H3 b) (T : Turn X.prog X.w X.K t0 J fp it tn) (st4 : tn 0 s4.heap)
    (w0 : W 0 m0 H3) (wk : Wlk J W (fun H' => Q (.ref D) H') fun Nx x H' => g x (wipe σ vs) H' fun τ H2 => Kn (wipe σ vs) τ ∧ InBd D wi1 g1 tk tv vs1 Nx τ H2)
    (pg : PG (X.blk s3 H3 scope ce fp) t0 g) (pi1 : PI (X.blk s3 H3 scope ce fp) t1 i1 wi1) (pg1 : PG (X.blk s3 H3 scope ce fp) t1 g1) (pk : PE (X.blk s3 H3 scope ce fp) kx tk) (pv : PE (X.blk s3 H3 scope ce fp) vx tv) (hs1 : ∀ x, foldedSetIterable i1 ce x = pure x) :
    codeAny (model X.prog X.w) X.A (.compLoop (dcE kx vx t0 i0 t1 i1 scope pos) 0 (.ref it) (.ref D) ce) (compPost (model X.prog X.w) X.A X.xe none (EP X pins σ Q) (.ref D) s3.heap.objs.size) s4 := by
  refine clause (Y := X.blk s3 H3 scope ce fp) (pins := []) (σ := wipe σ vs) (Bd := fun Nx τ H => InBd D wi1 g1 tk tv vs1 Nx τ H) hc (fun _ _ z => z) rfl den0 rfl T pg (fun H' nf b hb => ⟨nf b hb, (I4.ok.exf b hb).1, I4.ok.exfs b hb, .inl hb, fun x c e => (I4.ok.exf b hb).2 x c e, fun p hp => by cases hp⟩) W _ wk
    (fun Nx pl τ H2 s I kn bd => out_turn (Y := X.blk s3 H3 scope ce fp) hc (fun _ _ z => z) hs1 pi1 pg1 pk pv hv I kn bd) (fun s' H' I' q => ?_) I4 st4 (fun b hb => (f3 b hb).1) w0
  have I7 : Inv X pins σ H' s' := I3.call' (ch := fp) I'.os I'.base I'.hok I'.bare fun b hb => ⟨(f3 b hb).2.2.2.1, (f3 b hb).2.1, (f3 b hb).2.2.2.2.1, (f3 b hb).2.2.2.2.2⟩
  have nC : H' s3.heap.objs.size = none := by
    have z : H' ce.locals = none := I'.free
    rwa [loc] at z
  obtain ⟨m, hn, _⟩ := I'.loc
  have hn : s'.heap.Ns ce.locals m := hn
  rw [loc] at hn
  obtain ⟨a0, a1, a2, a3, a4, a5⟩ := I3.fpOk (H' := H') (Nat.le_refl _) nC
  exact ⟨m, hn, fun h' sb => ⟨.ref D, H', I7.turned (t' := s'.toks) (fun b o hb e => (sb.2 b hb).trans e) a0 a1 a3 a4 a5, rfl, q⟩⟩
theorem pe_dc2 {kx vx t0 i0 t1 i1 : Expr} {scope : Scope} {own : List (Str × Nat)} {vs1 : List Nat} {pos : Pos} {wi wi1 : TI} {g g1 : TG} {tk tv : TE} (hc : X.calm = true) (hN : X.N.Nodup) (hi : PI X t0 i0 wi) (ok : BlkOk X.N X.env.scope scope own) (hv : ∀ i, i ∈ vs1 → i ∈ own.map (·.2))
    (hg : InBlk X scope fun Y => PG Y t0 g) (hi1 : InBlk X scope fun Y => PI Y t1 i1 wi1) (hg1 : InBlk X scope fun Y => PG Y t1 g1) (hk : InBlk X scope fun Y => PE Y kx tk) (hw : InBlk X scope fun Y => PE Y vx tv)
    (hs : ∀ x, foldedSetIterable i0 X.env x = pure x := by intro _; rfl) (hs1 : ∀ env x, foldedSetIterable i1 env x = pure x := by intro _ _; rfl) : PE X (dcE kx vx t0 i0 t1 i1 scope pos) (tDc2 wi g wi1 g1 tk tv (own.map (·.2)) vs1) := by
  refine ⟨fun pins s σ H Q I h => ?_⟩
  rw [arm_eval_DictComp]
  have cells : ∀ y, y ∈ scope.names → y.2 = .free → ∃ c, X.env.cells.lookup y.1 = some c := fun y hy e => I.ok.has _ ((ok.free y hy e).elim .inl .inr)
  refine wpAny_comprehension_free (use := none) rfl hs (closure_ok cells) ok.kind (fun y hy e => by rw [ok.uniq y hy, e]) (wpAny_mono (hi.run pins s σ H _ I h) (fun xv s1 h1 => wpAny_mono h1 (fun itv s2 h2 => ?_) fun _ _ z => z) fun _ _ z => z)
  obtain ⟨it, fp, tn, J, H2, rfl, I2, T, st2, f2, q⟩ := h2
  refine wpAny_newObj_type (newEnv_comp ?_)
  have free : H2 s2.heap.objs.size = none := I2.hok.fresh (Nat.le_refl _)
  obtain ⟨W, m0, w0, wk⟩ := q s2.heap.objs.size free
  have up3 : ∀ b o, s2.heap.get? b = some o → (s2.heap.push { cls := .type "dict", data := .dict #[] }).get? b = some o := fun b o e => Heap.get?_push_of_some _ e
  have I3 : Inv X pins σ (upd H2 s2.heap.objs.size (.dK [])) { s2 with heap := s2.heap.push { cls := .type "dict", data := .dict #[] } } := I2.laid (t' := s2.toks) up3 (Nat.le_refl _) (dk_empty s2.heap I2.big)
  have low : ∀ b, b ∈ fp → b < s2.heap.objs.size := fun b hb => by
    obtain ⟨o, e, _⟩ := T.obj _ _ st2 b hb
    exact Heap.lt_size e
  have f3 : ∀ b, b ∈ fp → FpOk X pins (upd H2 s2.heap.objs.size (.dK [])) b ∧ b < (s2.heap.push { cls := .type "dict", data := .dict #[] }).objs.size := fun b hb =>
    ⟨fp_upd (f2 b hb) (Nat.ne_of_lt (low b hb)), by rw [Heap.size_push]; exact Nat.lt_succ_of_lt (low b hb)⟩
  have st3 : tn 0 (s2.heap.push { cls := .type "dict", data := .dict #[] }) := T.keep _ _ _ st2 fun b _ o e => up3 b o e
  have I4 := block_start I3 ok hN f3
  have st4 := T.keep 0 _ (pushCells ((s2.heap.push { cls := .type "dict", data := .dict #[] }).push { cls := .type "dict", data := .dict #[] }) scope.names) st3 fun b _ o e => pushCells_keeps _ _ _ _ (Heap.get?_push_of_some _ e)
  have lp := dc2_loop (kx := kx) (vx := vx) (t0 := t0) (i0 := i0) (t1 := t1) (i1 := i1) (pos := pos) hc I3 rfl I4 hv (fun b hb => (f3 b hb).1) T st4 w0 wk (hg _ _ _ _ _) (hi1 _ _ _ _ _) (hg1 _ _ _ _ _) (hk _ _ _ _ _) (hw _ _ _ _ _) (hs1 _)
  exact codeAny_compStart_dict lp (T.self X.A 0 _ _ _ st4 lp)
end
end Cmb


set_option Elab.async false
set_option autoImplicit false
set_option linter.all false
set_option maxRecDepth 100000
set_option maxHeartbeats 4000000
namespace Ly
open PySem PySem.Spec PyProof.Rows L2 Cmb
open Evl (Ex)
/-! ### for .. in a list or a tuple -/
def iSeq (K : PySem.W.Frag) (tl : TE) : TI := fun σ H R => tl σ H fun x H1 => ∃ a, x = .ref a ∧ (((∃ xs, SqL K H1 a xs) ∧ R (Itl K a) H1) ∨ ((∃ xs, SqT K H1 a xs) ∧ R (Itt K a) H1))
theorem pi_seq {X : Cx} {tg l : Expr} {tl : TE} (hl : PE X l tl) : PI X tg l (iSeq X.K tl) := by
  have hL := pi_list (tg := tg) hl
  have hT := pi_tup (tg := tg) hl
  refine ⟨fun pins s σ H R I h => ?_⟩
  refine thn (hl.run pins s σ H _ I h) fun v s1 ⟨x, H1, I1, r1, a, e, q⟩ => ?_
  subst e
  cases r1
  rcases q with ⟨⟨xs, hq⟩, q⟩ | ⟨⟨xs, hq⟩, q⟩
  · obtain ⟨its, rv, p, hz⟩ := I1.list hq
    refine wpAny_pyIter_list p.isList ⟨s1.heap.objs.size, [s1.heap.objs.size], _, _, H1, rfl, I1.kept (t' := s1.toks) fun b o e => Heap.get?_push_of_some _ e, turn_list a _, ⟨_, Heap.get?_push_size _ rfl, rfl, rfl⟩, fun b hb => ?_, q⟩
    rw [List.mem_singleton.mp hb]
    exact I1.fpOk (Nat.le_refl _) (I1.hok.fresh (Nat.le_refl _))
  · obtain ⟨its, rv, p, hz⟩ := I1.tuple hq
    refine wpAny_pyIter_tuple (show s1.heap.IsTuple a its.toArray from p) ⟨s1.heap.objs.size, [s1.heap.objs.size], _, _, H1, rfl, I1.kept (t' := s1.toks) fun b o e => Heap.get?_push_of_some _ e, turn_tuple a _, ⟨_, Heap.get?_push_size _ rfl, rfl, rfl⟩, fun b hb => ?_, q⟩
    rw [List.mem_singleton.mp hb]
    exact I1.fpOk (Nat.le_refl _) (I1.hok.fresh (Nat.le_refl _))
/-- the items of a list or of a tuple -/
def Da.its : Da → Option (List Da)
  | .lst ds => some ds
  | .tup ds => some ds
  | _ => none
section
variable {c : Ctx} {ρ : List Cell} {n i : Nat} {te ta tb : TE} {tr : TA} {d : Da} {ds : List Da} {E : SE}
theorem wk_seq (h : EvD c te ρ d) (hd : d.its = some ds) : Wk c (iSeq c.K te) ρ n (Just n ds.length (nth ds)) := by
  cases d with
  | lst es =>
    cases hd
    intro B H σ G S q
    have z := wk_list (n := n) h B H σ G S q
    exact h B H σ n G _ fun v B1 H1 s j r => by
      cases r with
      | @lst a xs _ hb hr =>
        have sq : ∀ H', Ex B1 H' → SqL c.K H' a xs := fun H' e => SqL.of (e _ _ hb)
        refine ⟨a, rfl, .inl ⟨⟨xs, sq _ s.bh⟩, q _ _ _ _ B1 H1 ⟨rfl, rfl, rfl⟩ s j (fun H' e k => ⟨fun lt => ?_, fun ek => ?_⟩) fun H' k x H'' B' n' lt e e' j' y => ?_⟩⟩
        · exact (walk_list (xs := xs)).goes k H' (by rw [hr.len]; exact lt) (sq H' e)
        · rw [ek, ← hr.len]
          exact walk_list.stops H' (sq H' e)
        · obtain ⟨eh, hx⟩ := (walk_list (xs := xs)).yields k H' x H'' (by rw [hr.len]; exact lt) (sq H' (e.trans e')) y
          subst eh
          obtain ⟨d, hd, rd⟩ := hr.got hx
          refine ⟨B', Step.refl e', j', ?_⟩
          rw [nth_at hd]
          exact rd.up e
  | tup es =>
    cases hd
    intro B H σ G S q
    exact h B H σ n G _ fun v B1 H1 s j r => by
      cases r with
      | @tup a xs _ hb hr =>
        have sq : ∀ H', Ex B1 H' → SqT c.K H' a xs := fun H' e => Evl.ex_t e hb
        refine ⟨a, rfl, .inr ⟨⟨xs, sq _ s.bh⟩, q _ _ _ _ B1 H1 ⟨rfl, rfl, rfl⟩ s j (fun H' e k => ⟨fun lt => ?_, fun ek => ?_⟩) fun H' k x H'' B' n' lt e e' j' y => ?_⟩⟩
        · exact (walk_tup (xs := xs)).goes k H' (by rw [hr.len]; exact lt) (sq H' e)
        · rw [ek, ← hr.len]
          exact walk_tup.stops H' (sq H' e)
        · obtain ⟨eh, hx⟩ := (walk_tup (xs := xs)).yields k H' x H'' (by rw [hr.len]; exact lt) (sq H' (e.trans e')) y
          subst eh
          obtain ⟨d, hd, rd⟩ := hr.got hx
          refine ⟨B', Step.refl e', j', ?_⟩
          rw [nth_at hd]
          exact rd.up e
  | non => cases hd
  | bl b => cases hd
  | int i => cases hd
  | str s => cases hd
  | ob C fs => cases hd
/-! ### dicts of one's own -/
theorem s_dnew (k : E.nx (ρ.set i (.raw (.dK []))) n) : SvG c (tAsg tDNewK (gName i)) ρ n E := fun B H σ D G K => fun p hp => K.nx (Ex.refl B) (G.setRaw hp) k
theorem t_din {kvs : List (L2.Key × V)} {key : L2.Key} (h : ρ[i]? = some (.raw (.dK kvs))) (hk : EvD c te ρ d) (hd : d.sc = some (kV key)) : EvT c (tB (tDIn te (tVar i))) ρ (valV kvs key).isSome := fun B H σ n G Q q => hk B H σ n G _ fun v B1 H1 s j r => by
  have G1 := G.step s j
  obtain ⟨l, g1, g2, g3, g4, g5⟩ := G1.raw h
  obtain rfl := sc_rep r hd
  exact ⟨_, g1, l, _, rfl, DGet.k g5, _, rfl, q B1 H1 s j⟩
theorem s_dput {kvs : List (L2.Key × V)} {key : L2.Key} {e : Da} {v : V} (h : ρ[i]? = some (.raw (.dK kvs))) (hv : EvD c ta ρ e) (he : e.sc = some v) (hk : EvD c te ρ d) (hd : d.sc = some (kV key)) (hl : kvs.length < 100000) (k : E.nx (ρ.set i (.raw (.dK (putK kvs key v)))) n) : SvG c (sDPut (tVar i) te ta) ρ n E := fun B H σ D G K =>
  hv B H σ n G _ fun v' B1 H1 s j r => by
    have G1 := G.step s j
    obtain rfl := sc_rep r he
    obtain ⟨l, g1, _⟩ := G1.raw h
    refine ⟨_, g1, hk B1 H1 σ n G1 _ fun u B2 H2 s2 j2 r2 => ?_⟩
    have G2 := G1.step s2 j2
    obtain rfl := sc_rep r2 hd
    obtain ⟨l', k1, k2, k3, k4, k5⟩ := G2.raw h
    rw [g1] at k1
    cases k1
    exact ⟨l, _, rfl, DPut.k k5 (Evl.sz_lt hl), K.nx (s.eb.trans s2.eb) (G2.mutRaw h g1) k⟩
end
end Ly


set_option Elab.async false
set_option autoImplicit false
set_option linter.all false
set_option maxRecDepth 100000
set_option maxHeartbeats 4000000
namespace Ly
open PySem PySem.Spec PyProof.Rows L2 Cmb
open Evl (Ex)
/-! ### texts in order -/
def leT (a b : Str) : Bool := !decide (b.cps.toList < a.cps.toList)
theorem leT_trans (a b c : Str) (h : leT a b = true) (k : leT b c = true) : leT a c = true := by
  simp only [leT, Bool.not_eq_true', decide_eq_false_iff_not] at *
  exact List.le_trans (l₁ := a.cps.toList) (l₂ := b.cps.toList) (l₃ := c.cps.toList) h k
theorem leT_total (a b : Str) : (leT a b || leT b a) = true := by
  rcases List.le_total a.cps.toList b.cps.toList with h | h
  · have : leT a b = true := by
      simp only [leT, Bool.not_eq_true', decide_eq_false_iff_not]
      exact h
    rw [this]
    rfl
  · have : leT b a = true := by
      simp only [leT, Bool.not_eq_true', decide_eq_false_iff_not]
      exact h
    rw [this, Bool.or_true]
theorem leT_anti (a b : Str) (h : leT a b = true) (k : leT b a = true) : a = b := by
  simp only [leT, Bool.not_eq_true', decide_eq_false_iff_not] at h k
  have e : a.cps.toList = b.cps.toList := List.le_antisymm h k
  cases a
  cases b
  simp only [Array.toList_inj] at e
  rw [e]
def srtS (xs : List Str) : List Str := xs.mergeSort leT
theorem rising_pw : ∀ (r : List Str) (p : Str), risingS p r = true → (p :: r).Pairwise (fun a b => leT a b = true)
  | [], p, _ => List.pairwise_singleton _ _
  | x :: r, p, h => by
    unfold risingS at h
    rw [Bool.and_eq_true] at h
    have h2 := rising_pw r x h.2
    have px : leT p x = true := by
      have z := h.1
      rw [ltCps_eq] at z
      exact z
    refine List.pairwise_cons.mpr ⟨fun y hy => ?_, h2⟩
    rcases List.mem_cons.mp hy with e | hy
    · rw [e]
      exact px
    · exact leT_trans p x y px (List.rel_of_pairwise_cons h2 hy)
theorem sorted_uni {ys xs : List Str} (h : ys.Perm xs) (s : sortedS ys = true) : ys = srtS xs := by
  have pw : ys.Pairwise (fun a b => leT a b = true) := by
    cases ys with
    | nil => exact .nil
    | cons y r => exact rising_pw r y s
  have pm : (srtS xs).Pairwise (fun a b => leT a b = true) := List.pairwise_mergeSort leT_trans leT_total xs
  exact List.Perm.eq_of_pairwise (fun a b _ _ h1 h2 => leT_anti a b h1 h2) pw pm (h.trans (List.mergeSort_perm xs leT).symm)
theorem srtS_len (xs : List Str) : (srtS xs).length = xs.length := List.length_mergeSort xs
/-! ### keys put one after another -/
def addS (ks : List Str) (s : Str) : List Str := if s ∈ ks then ks else ks ++ [s]
def keysOf (l : List Str) : List Str := l.foldl addS []
def kvT (ks : List Str) : List (L2.Key × V) := ks.map fun s => (.inr s, .bl true)
theorem keys_snoc (l : List Str) (s : Str) : keysOf (l ++ [s]) = addS (keysOf l) s := by
  unfold keysOf
  rw [List.foldl_append]
  rfl
theorem put_kvT (ks : List Str) (s : Str) : putK (kvT ks) (.inr s) (.bl true) = kvT (addS ks s) := by
  have ha : ((kvT ks).any fun kv => decide (kv.1 = Sum.inr s)) = decide (s ∈ ks) := by
    unfold kvT
    rw [List.any_map]
    induction ks with
    | nil => rfl
    | cons k ks ih =>
      rw [List.any_cons, ih]
      simp [Function.comp, eq_comm]
  unfold putK addS
  by_cases h : s ∈ ks
  · rw [if_pos (by rw [ha]; exact decide_eq_true h), if_pos h]
    unfold kvT
    rw [List.map_map]
    refine List.map_congr_left fun k _ => ?_
    show (if _ then _ else _) = _
    split
    · rfl
    · rfl
  · rw [if_neg (by rw [ha]; simp [h]), if_neg h]
    unfold kvT
    rw [List.map_append]
    rfl
theorem addS_len (ks : List Str) (s : Str) : (addS ks s).length ≤ ks.length + 1 := by
  unfold addS
  split
  · omega
  · rw [List.length_append, List.length_singleton]
    exact Nat.le_refl _
theorem keys_len (l : List Str) : (keysOf l).length ≤ l.length := by
  have key : ∀ (l ks : List Str), (l.foldl addS ks).length ≤ ks.length + l.length := by
    intro l
    induction l with
    | nil => intro ks; exact Nat.le_refl _
    | cons s l ih =>
      intro ks
      have h1 := ih (addS ks s)
      have h2 := addS_len ks s
      rw [List.foldl_cons, List.length_cons]
      omega
  have := key l []
  simpa [keysOf] using this
def skills (rows : List (List Str)) : List Str := srtS (keysOf rows.flatten)
end Ly


set_option Elab.async false
set_option autoImplicit false
set_option linter.all false
set_option maxRecDepth 100000
set_option maxHeartbeats 4000000
namespace Ly
open PySem PySem.Spec PyProof.Rows L2 Cmb
open Evl (Ex)
def txts (ss : List Str) : List Da := ss.map .str
/-- rows of texts: lists or tuples of them -/
inductive RowsD : List Da → List (List Str) → Prop
  | nil : RowsD [] []
  | cons {d : Da} {ds : List Da} {ss : List Str} {rows : List (List Str)} : d.its = some (txts ss) → RowsD ds rows → RowsD (d :: ds) (ss :: rows)
theorem RowsD.len : ∀ {ds : List Da} {rows : List (List Str)}, RowsD ds rows → ds.length = rows.length
  | _, _, .nil => rfl
  | _, _, .cons _ r => congrArg Nat.succ r.len
theorem RowsD.at : ∀ {ds : List Da} {rows : List (List Str)}, RowsD ds rows → ∀ {k : Nat} {ss : List Str}, rows[k]? = some ss → (nth ds k).its = some (txts ss)
  | _, _, .nil, k, ss, h => by cases h
  | _, _, .cons h0 r, k, ss, h => by
    cases k with
    | zero =>
      cases h
      exact h0
    | succ k => exact r.at (k := k) h
theorem nth_txts {ss : List Str} {j : Nat} {s : Str} (h : ss[j]? = some s) : nth (txts ss) j = .str s := nth_at (by unfold txts; rw [List.getElem?_map, h]; rfl)
theorem take_flat {rows : List (List Str)} {k : Nat} {ss : List Str} (h : rows[k]? = some ss) : (rows.take (k + 1)).flatten = (rows.take k).flatten ++ ss := by
  rw [List.take_succ, h]
  simp
theorem take_flat_len (rows : List (List Str)) (k : Nat) : (rows.take k).flatten.length ≤ rows.flatten.length := by
  have e : rows.flatten = (rows.take k).flatten ++ (rows.drop k).flatten := by
    rw [← List.flatten_append, List.take_append_drop]
  rw [e, List.length_append]
  omega
theorem txt_reps {K : PySem.W.Frag} {B : Hp} : ∀ ys : List Str, Reps K B (ys.map V.str) (txts ys)
  | [] => .nil
  | y :: ys => .cons (.str y) (txt_reps ys)
section
variable {c : Ctx} {ρ : List Cell} {n : Nat} {te : TE} {d : Da} {ds : List Da} {rows : List (List Str)} {a b : Nat} {vs vs1 : List Nat}
/-- sorted(list({s: True for r in rows for s in r})) -/
theorem d_skills (h : EvD c te ρ d) (hd : d.its = some ds) (hr : RowsD ds rows) (hl : rows.flatten.length < 64) (ha : a ∈ vs) (hb : b < ρ.length) (ha2 : a < ρ.length) (hb1 : b ∈ vs1) :
    EvD c (tCB (rSortedS c.K) (tCons (tCB rListD (tCons (tDc2 (iSeq c.K te) (gName a) (iSeq c.K (tVar a)) (gName b) (tVar b) (tC (.bl true)) vs vs1) tNil)) tNil)) ρ (.lst (txts (skills rows))) := fun B H σ n G Q q => by
  have hw := wk_seq (n := n) h hd
  show tDc2 (iSeq c.K te) (gName a) (iSeq c.K (tVar a)) (gName b) (tVar b) (tC (.bl true)) vs vs1 σ H fun x H1 => rListD [x] H1 fun y H2 => rSortedS c.K [y] H2 Q
  unfold tDc2
  refine hw B H σ G _ fun J N dd n2 B1 H1 hP s j hgo hy => ?_
  obtain ⟨rfl, rfl, en⟩ := hP
  rw [en] at j
  clear en
  intro D hD
  have G1 := (G.step s j).wiped vs
  have bD : B1 D = none := Evl.fresh_back s.bh hD
  have nF : ¬ c.F D := fun f => jnF j D f hD
  have zD : c.H0 D = none := by
    cases e : c.H0 D with
    | none => rfl
    | some o =>
      rw [G1.eh D o nF e] at hD
      cases hD
  have noD : ∀ (i : Nat) (x : Cell), (wipeC ρ vs)[i]? = some x → x.mine = true → (wipe σ vs)[i]? ≠ some (some (V.ref D)) := fun i x h mm z => by
    obtain ⟨l, o, h1, _, _, _, h5⟩ := G1.addr h mm
    rw [h1] at z
    cases z
    rw [hD] at h5
    cases h5
  have sl : σ.length = ρ.length := G.len
  have hlen := hr.len
  -- what stands while the dict grows
  let At : Hp → List Str → Prop := fun H' l => ∃ B', Step c B1 H1 B' H' ∧ Good c B' H' (wipe σ vs) (wipeC ρ vs) n ∧ H' D = some (.dK (kvT (keysOf l))) ∧ B' D = none
  refine ⟨fun k m H' => m = ds.length - k ∧ k ≤ ds.length ∧ At H' (rows.take k).flatten, ds.length, ⟨by omega, Nat.zero_le _, B1, ⟨Ex.refl _, s.bh.trans (Ex.new hD), ExF.of (Ex.new hD), fun _ h _ => h⟩, G1.obj bD nF zD noD, upd_same, bD⟩, ?_⟩
  rintro k m H' ⟨rfl, hk, B', st, G', hx, bD'⟩
  by_cases lt : k < ds.length
  · have hss : rows[k]? = some rows[k] := List.getElem?_eq_getElem (by omega)
    generalize rows[k] = ss at hss
    have hrow := hr.at hss
    refine .inr ⟨(hgo H' (st.eb.trans G'.bh) k).1 lt, fun H2 => At H2 (rows.take (k + 1)).flatten, fun H2 r => ⟨ds.length - (k + 1), by omega, rfl, lt, r⟩, fun x H'' y => ?_⟩
    obtain ⟨B2, s2, j2, rd⟩ := hy H' k x H'' B' n lt st.eb G'.bh G'.jn y
    have G2 := G'.step s2 j2
    have d2 : H'' D = some (.dK (kvT (keysOf (rows.take k).flatten))) := s2.eh D _ nF hx
    have bd2 : B2 D = none := s2.fr D bD' (by rw [hx]; exact fun z => nomatch z)
    have kn : Kn (wipe σ vs) ((wipe σ vs).set a (some x)) := ⟨by rw [List.length_set], fun i v e => by
      have ni : i ≠ a := fun z => (wipe_some e).2 (by rw [z]; exact ha)
      rw [set_off ni]
      exact e⟩
    refine ⟨kn, ?_⟩
    have G3 : Good c B2 H'' ((wipe σ vs).set a (some x)) ((wipeC ρ vs).set a (.da (nth ds k))) n := G2.set rd
    have wl : (wipeC ρ vs).length = ρ.length := by
      rw [← G1.len, wipe_length]
      exact sl
    have hw1 := wk_seq (n := n) (c := c) (te := tVar a) (ρ := (wipeC ρ vs).set a (.da (nth ds k))) (d := nth ds k) (d_var (set_at (by rw [wl]; exact ha2))) hrow
    refine hw1 B2 H'' _ G3 _ fun J1 N1 dd1 n3 B3 H3 hP1 s3 j3 hgo1 hy1 => ?_
    obtain ⟨rfl, rfl, en⟩ := hP1
    rw [en] at j3
    clear en
    have d3 : H3 D = some (.dK (kvT (keysOf (rows.take k).flatten))) := s3.eh D _ nF d2
    have bd3 : B3 D = none := s3.fr D bd2 (by rw [d2]; exact fun z => nomatch z)
    have st3 := (st.trans (jnF G'.jn) s2).trans (jnF j2) s3
    have el : (txts ss).length = ss.length := List.length_map _
    refine ⟨fun i m H4 => m = (txts ss).length - i ∧ i ≤ (txts ss).length ∧ ∃ B4, Ex B3 B4 ∧ Step c B1 H1 B4 H4 ∧ Good c B4 H4 (wipe σ vs) (wipeC ρ vs) n ∧ H4 D = some (.dK (kvT (keysOf ((rows.take k).flatten ++ ss.take i)))) ∧ B4 D = none, _, ⟨rfl, Nat.zero_le _, B3, Ex.refl _, st3, G2.step s3 j3, by rw [List.take_zero, List.append_nil]; exact d3, bd3⟩, ?_⟩
    rintro i m H4 ⟨rfl, hi, B4, e4, st4, G4, d4, bd4⟩
    by_cases li : i < (txts ss).length
    · have hs : ss[i]? = some ss[i] := List.getElem?_eq_getElem (by omega)
      generalize ss[i] = w at hs
      refine .inr ⟨(hgo1 H4 (e4.trans G4.bh) i).1 li, fun H5 => ∃ B5, Ex B3 B5 ∧ Step c B1 H1 B5 H5 ∧ Good c B5 H5 (wipe σ vs) (wipeC ρ vs) n ∧ H5 D = some (.dK (kvT (keysOf ((rows.take k).flatten ++ ss.take (i + 1))))) ∧ B5 D = none, fun H5 r => ⟨(txts ss).length - (i + 1), by omega, rfl, li, r⟩, fun x1 H5 y1 => ?_⟩
      obtain ⟨B5, s5, j5, rd5⟩ := hy1 H4 i x1 H5 B4 n li e4 G4.bh G4.jn y1
      rw [nth_txts hs] at rd5
      cases rd5
      have d5 : H5 D = some (.dK (kvT (keysOf ((rows.take k).flatten ++ ss.take i)))) := s5.eh D _ nF d4
      have bd5 : B5 D = none := s5.fr D bd4 (by rw [d4]; exact fun z => nomatch z)
      have G5 := G4.step s5 j5
      have st5 := st4.trans (jnF G4.jn) s5
      have lw : (wipe ((wipe σ vs).set a (some x)) vs1).length = ρ.length := by
        rw [wipe_length, List.length_set, wipe_length]
        exact sl
      refine ⟨⟨by rw [List.length_set], fun i v e => ?_⟩, _, set_at (by rw [lw]; exact hb), ?_⟩
      · have ni : i ≠ b := fun z => (wipe_some e).2 (by rw [z]; exact hb1)
        rw [set_off ni]
        exact e
      have lb : (kvT (keysOf ((rows.take k).flatten ++ ss.take i))).length < 64 := by
        unfold kvT
        rw [List.length_map]
        refine Nat.lt_of_le_of_lt (keys_len _) (Nat.lt_of_le_of_lt ?_ hl)
        have z := take_flat_len rows (k + 1)
        rw [take_flat hss, List.length_append] at z
        rw [List.length_append, List.length_take]
        omega
      refine ⟨_, .inr w, rfl, d5, Nat.lt_of_lt_of_le lb (by rw [sizeLine_eq]; omega), B5, e4.trans s5.eb, ⟨st5.eb, fun z o e => ?_, fun z o f e => ?_, st5.fr⟩, G5.obj bd5 nF zD noD, ?_, bd5⟩
      · rw [upd_ne (fun z => by rw [z, bd5] at e; cases e)]
        exact st5.bh z o e
      · rw [upd_ne (fun z => by rw [z, hD] at e; cases e)]
        exact st5.eh z o f e
      · rw [upd_same, put_kvT, List.take_succ, hs, ← keys_snoc, List.append_assoc]
        rfl
    · have ei : i = ss.length := by omega
      refine .inl ⟨(hgo1 H4 (e4.trans G4.bh) i).2 (by omega), B4, st4, G4, ?_, bd4⟩
      rw [take_flat hss]
      rw [ei, List.take_length] at d4
      exact d4
  · have ek : k = ds.length := by omega
    refine .inl ⟨(hgo H' (st.eb.trans G'.bh) k).2 ek, ?_⟩
    rw [ek, hlen, List.take_length] at hx
    refine ⟨D, _, rfl, hx, fun u hu => ?_⟩
    have eq1 : (kvT (keysOf rows.flatten)).map (fun kv => kV kv.1) = (keysOf rows.flatten).map V.str := by
      unfold kvT
      rw [List.map_map]
      rfl
    rw [eq1]
    refine ⟨u, keysOf rows.flatten, rfl, SqL.of upd_same, Nat.lt_of_le_of_lt (keys_len _) hl, fun ys p hp hs hn => ?_⟩
    have ey := sorted_uni hp hs
    subst ey
    have e1 : Ex H' (upd H' u (.lst ((keysOf rows.flatten).map V.str))) := Ex.new hu
    have bh1 : Ex B' (upd H' u (.lst ((keysOf rows.flatten).map V.str))) := G'.bh.trans e1
    have stA : Step c B' H' B' (upd H' u (.lst ((keysOf rows.flatten).map V.str))) := ⟨Ex.refl _, bh1, ExF.of e1, fun _ z _ => z⟩
    have stB := step_new (c := c) (o := .lst ((srtS (keysOf rows.flatten)).map V.str)) bh1 hn
    have jA := Ly.J.up G'.jn e1
    refine q (.ref p) _ _ (((s.trans (jnF j) st).trans (jnF G'.jn) stA).trans (jnF jA) stB) (Ly.J.up jA (Ex.new hn)) (.lst upd_same (txt_reps _))
end
end Ly


set_option Elab.async false
set_option autoImplicit false
set_option linter.all false
set_option maxRecDepth 100000
set_option maxHeartbeats 4000000
namespace Ly
open PySem PySem.Spec PyProof.Rows L2 Cmb
open Evl (Ex)
/-! ### lists of one kind, as values -/
theorem reps_of {K : PySem.W.Frag} {B : Hp} {α : Type} {f : α → Da} {g : α → V} (h : ∀ a v, Rep K B v (f a) → v = g a) : ∀ {l : List α} {xs : List V}, Reps K B xs (l.map f) → xs = l.map g
  | [], xs, r => by
    cases r
    rfl
  | a :: l, xs, r => by
    cases r with
    | cons r1 r2 =>
      rw [h a _ r1, reps_of h r2]
      rfl
theorem reps_bl {K : PySem.W.Frag} {B : Hp} {l : List Bool} {xs : List V} (r : Reps K B xs (l.map .bl)) : xs = l.map .bl := reps_of (fun a v z => by cases z; rfl) r
theorem reps_int {K : PySem.W.Frag} {B : Hp} {l : List Int} {xs : List V} (r : Reps K B xs (l.map .int)) : xs = l.map .int := reps_of (fun a v z => by cases z; rfl) r
theorem reps_str {K : PySem.W.Frag} {B : Hp} {l : List Str} {xs : List V} (r : Reps K B xs (txts l)) : xs = l.map .str := reps_of (fun a v z => by cases z; rfl) r
theorem Rep.sq {K : PySem.W.Frag} {B H : Hp} {v : V} {d : Da} {ds : List Da} (r : Rep K B v d) (bh : Ex B H) (h : d.its = some ds) : ∃ a xs, v = .ref a ∧ (SqL K H a xs ∨ SqT K H a xs) ∧ Reps K B xs ds := by
  cases r with
  | lst hb hr =>
    cases h
    exact ⟨_, _, rfl, .inl (SqL.of (bh _ _ hb)), hr⟩
  | tup hb hr =>
    cases h
    exact ⟨_, _, rfl, .inr (Evl.ex_t bh hb), hr⟩
  | non => cases h
  | bl b => cases h
  | int i => cases h
  | str s => cases h
  | ob hb hr => cases h
section
variable {c : Ctx} {ρ : List Cell} {n i : Nat} {te ta tb : TE} {tr : TA} {d : Da} {ds : List Da} {E : SE}
theorem cd_any {l : List Bool} : CaD c (rAny c.K) [.lst (l.map .bl)] (.bl (l.any id)) := fun B H vs n bh jn r Q q => by
  cases r with
  | cons h t =>
    cases t
    cases h with
    | lst hs hr =>
      have e := reps_bl hr
      subst e
      exact ⟨_, l, rfl, SqL.of (bh _ _ hs), q _ B H (Step.refl bh) jn (.bl _)⟩
theorem cd_all {l : List Bool} : CaD c (rAll c.K) [.lst (l.map .bl)] (.bl (l.all id)) := fun B H vs n bh jn r Q q => by
  cases r with
  | cons h t =>
    cases t
    cases h with
    | lst hs hr =>
      have e := reps_bl hr
      subst e
      exact ⟨_, l, rfl, SqL.of (bh _ _ hs), q _ B H (Step.refl bh) jn (.bl _)⟩
theorem cd_sum {l : List Int} : CaD c (rSum c.K) [.lst (l.map .int)] (.int l.sum) := fun B H vs n bh jn r Q q => by
  cases r with
  | cons h t =>
    cases t
    cases h with
    | lst hs hr =>
      have e := reps_int hr
      subst e
      exact ⟨_, l, rfl, SqL.of (bh _ _ hs), q _ B H (Step.refl bh) jn (.int _)⟩
theorem cd_max {l : List Int} {m : Int} (h1 : m ∈ l) (h2 : ∀ y, y ∈ l → y ≤ m) : CaD c (rMax c.K) [.lst (l.map .int)] (.int m) := fun B H vs n bh jn r Q q => by
  cases r with
  | cons h t =>
    cases t
    cases h with
    | lst hs hr =>
      have e := reps_int hr
      subst e
      refine ⟨_, l, rfl, SqL.of (bh _ _ hs), List.length_pos_of_mem h1, fun k hk hu => ?_⟩
      have ek : k = m := by
        have a := h2 k hk
        have b := hu m h1
        omega
      rw [ek]
      exact q _ B H (Step.refl bh) jn (.int _)
theorem flat_str (l : List Str) : (l.map V.str).all flatV = true := by
  rw [List.all_map]
  exact List.all_eq_true.mpr fun _ _ => rfl
/-- s in a list or a tuple of texts -/
theorem od_inS {s : Str} {l : List Str} (h : d.its = some (txts l)) : OpD c (rIn c.K false) (.str s) d (.bl (decide (s ∈ l))) := fun B H v w n bh jn rv rw' Q q => by
  cases rv
  obtain ⟨a, xs, rfl, hs, hr⟩ := rw'.sq bh h
  have e := reps_str hr
  subst e
  refine ⟨a, _, rfl, hs, rfl, flat_str l, ?_⟩
  have e : (if false = true then !inV (.str s) (l.map V.str) else inV (.str s) (l.map V.str)) = decide (s ∈ l) := by
    show inV (.str s) (l.map V.str) = _
    unfold inV
    rw [List.any_map]
    clear hs hr h q
    induction l with
    | nil => rfl
    | cons x l ih =>
      rw [List.any_cons, ih]
      show ((x == s) || decide (s ∈ l)) = _
      by_cases z : x = s
      · subst z
        simp
      · have z2 : ¬ s = x := fun y => z y.symm
        simp [z, z2]
  rw [e]
  exact q _ B H (Step.refl bh) jn (.bl _)
/-! ### isinstance -/
def Da.tyn : Da → Option String
  | .non => some "NoneType"
  | .bl _ => some "bool"
  | .int _ => some "int"
  | .str _ => some "str"
  | .lst _ => some "list"
  | .tup _ => some "tuple"
  | .ob _ _ => none
theorem Rep.tyx {K : PySem.W.Frag} {B H : Hp} {v : V} {t : String} (r : Rep K B v d) (bh : Ex B H) (h : d.tyn = some t) : TyX K H v (.type t) := by
  cases r with
  | non => cases h; exact .base .non
  | bl b => cases h; exact .base (.bl b)
  | int i => cases h; exact .base (.int i)
  | str s => cases h; exact .base (.str s)
  | lst hb hr => cases h; exact .base (.lst (bh _ _ hb))
  | tup hb hr =>
    cases h
    rcases Evl.ex_t bh hb with (z | ⟨o, z⟩) | ⟨o, its, m, z, zc, _⟩
    · exact .base (.tup z)
    · exact .fTuple z
    · exact .kTuple z zc
  | ob hb hr => cases h
theorem d_isi {t T : String} {b : Bool} (h : EvD c te ρ d) (ht : d.tyn = some t) (hk : kitB t T = some b) : EvD c (tCB (rIsi c.K) (tCons te (tCons (tC (.ty T)) tNil))) ρ (.bl b) := fun B H σ n G Q q =>
  h B H σ n G _ fun v B1 H1 s j r => ⟨v, .ty T, .type t, .type T, b, rfl, .ty T, r.tyx s.bh ht, kit_ty hk, q _ B1 H1 s j (.bl b)⟩
/-- isinstance(x, (T, U)) -/
theorem d_isi2 {t T U : String} {b : Bool} (h : EvD c te ρ d) (ht : d.tyn = some t) (hk : PySem.W.kitAny c.K (.type t) [.type T, .type U] = some b) : EvD c (tCB (rIsiT c.K) (tCons te (tCons (tTup (tCons (tC (.ty T)) (tCons (tC (.ty U)) tNil))) tNil))) ρ (.bl b) := fun B H σ n G Q q =>
  h B H σ n G _ fun v B1 H1 s j r => ⟨big (show 2 ≤ 100000 by decide), fun p hp => by
    have e : Ex H1 (upd H1 p (.tup [.ty T, .ty U])) := Ex.new hp
    refine ⟨v, p, [.ty T, .ty U], .type t, [.type T, .type U], b, rfl, upd_same, .cons (.ty T) (.cons (.ty U) .nil), r.tyx (s.bh.trans e) ht, hk, ?_⟩
    have st : Step c B1 H1 B1 (upd H1 p (.tup [.ty T, .ty U])) := ⟨Ex.refl _, s.bh.trans e, ExF.of e, fun _ z _ => z⟩
    exact q _ B1 _ (s.trans (jnF j) st) (J.up j e) (.bl b)⟩
/-! ### slices -/
def cutD (ds : List Da) (lo hi : Option Int) : List Da := (ds.drop (HT.sIx ds.length 0 lo)).take (HT.sIx ds.length ds.length hi - HT.sIx ds.length 0 lo)
theorem Reps.drop {K : PySem.W.Frag} {B : Hp} : ∀ {k : Nat} {xs : List V} {ds : List Da}, Reps K B xs ds → Reps K B (xs.drop k) (ds.drop k)
  | 0, _, _, h => h
  | k + 1, _, _, .nil => .nil
  | k + 1, _, _, .cons _ h => h.drop (k := k)
theorem Reps.take {K : PySem.W.Frag} {B : Hp} : ∀ {k : Nat} {xs : List V} {ds : List Da}, Reps K B xs ds → Reps K B (xs.take k) (ds.take k)
  | 0, _, _, h => .nil
  | k + 1, _, _, .nil => .nil
  | k + 1, _, _, .cons a h => .cons a (h.take (k := k))
theorem Reps.cut {K : PySem.W.Frag} {B : Hp} {xs : List V} {ds : List Da} (h : Reps K B xs ds) (lo hi : Option Int) : Reps K B (cutV xs lo hi) (cutD ds lo hi) := by
  unfold cutV cutD
  rw [h.len]
  exact h.drop.take
def EvP (c : Ctx) (to : TO) (ρ : List Cell) (l : Option Int) : Prop := ∀ B H σ n, Good c B H σ ρ n → ∀ Q : Option Int → Hp → Prop, (∀ B2 H2, Step c B H B2 H2 → c.J n H2 → Q l H2) → to σ H Q
theorem p_none : EvP c tNoPart ρ none := fun B H σ n G Q q => q B H (Step.refl G.bh) G.jn
theorem p_some {i : Int} (h : EvD c te ρ (.int i)) : EvP c (tPart te) ρ (some i) := fun B H σ n G Q q => h B H σ n G _ fun v B1 H1 s j r => by
  cases r
  exact ⟨i, rfl, q B1 H1 s j⟩
theorem nl_slice {tl th : TO} {lo hi : Option Int} (h : EvD c te ρ (.lst ds)) (hl : EvP c tl ρ lo) (hh : EvP c th ρ hi) : NewL c (tSl (rSlL c.K) te tl th) ρ (cutD ds lo hi) := fun B H σ n G Q q =>
  h B H σ n G _ fun v B1 H1 s1 j1 r1 => hl B1 H1 σ n (G.step s1 j1) _ fun B2 H2 s2 j2 => hh B2 H2 σ n ((G.step s1 j1).step s2 j2) _ fun B3 H3 s3 j3 => by
    have s23 := s2.trans (jnF j2) s3
    cases r1 with
    | lst hs hr => exact ⟨_, _, rfl, SqL.of (s23.bh _ _ (s23.eb _ _ hs)), fun p hp => q B3 H3 (s1.trans (jnF j1) s23) j3 _ ((hr.up s23.eb).cut lo hi) p hp⟩
theorem d_sliceT {tl th : TO} {lo hi : Option Int} (h : EvD c te ρ (.tup ds)) (hl : EvP c tl ρ lo) (hh : EvP c th ρ hi) : EvD c (tSl (rSlA c.K) te tl th) ρ (.tup (cutD ds lo hi)) := fun B H σ n G Q q =>
  h B H σ n G _ fun v B1 H1 s1 j1 r1 => hl B1 H1 σ n (G.step s1 j1) _ fun B2 H2 s2 j2 => hh B2 H2 σ n ((G.step s1 j1).step s2 j2) _ fun B3 H3 s3 j3 => by
    have s23 := s2.trans (jnF j2) s3
    have s13 := s1.trans (jnF j1) s23
    cases r1 with
    | @tup _ xs _ hs hr =>
      have hr3 := hr.up s23.eb
      refine ⟨_, _, rfl, Evl.ex_t s3.bh (Evl.ex_t s23.eb hs), fun z => ?_, fun _ p hp => ?_⟩
      · have e : cutD ds lo hi = ds := by
          unfold cutD
          rw [← hr.len, z.1, z.2, List.drop_zero, Nat.sub_zero, hr.len, List.take_length]
        refine q _ B3 H3 s13 j3 ?_
        rw [e]
        exact .tup (Evl.ex_t s23.eb hs) hr3
      · have st := step_new (c := c) (o := .tup (cutV xs lo hi)) s3.bh hp
        exact q _ _ _ (s13.trans (jnF j3) st) (J.up j3 (Ex.new hp)) (.tup (SqT.of upd_same) ((hr3.cut lo hi).up st.eb))
end
end Ly


set_option Elab.async false
set_option autoImplicit false
set_option linter.all false
set_option maxRecDepth 100000
set_option maxHeartbeats 4000000
namespace Ly
open PySem PySem.Spec PyProof.Rows L2 Cmb
open Evl (Ex)
/-! ### a number drawn, one of some values -/
def Sdraw : List Da → Nat → Prop := fun ds n => ∃ m : Int, ds = [.int m] ∧ 1 ≤ m ∧ m ≤ 1000000 ∧ n < 1000000
def Rdraw : List Da → Nat → Da → Nat → Prop := fun ds n d n2 => ∃ m r : Int, ds = [.int m] ∧ d = .int r ∧ 0 ≤ r ∧ r < m ∧ n2 = n + 1
/-- what a body that draws has to do -/
def drawAsk (vs : List V) (H : Hp) (Q : VK) : Prop := ∃ (p : Addr) (a b k m : Int), vs = [.ref p, .int m] ∧ H p = some (.lst [.int a, .int b, .int k]) ∧ Well a b k ∧ k < 1000000 ∧ 1 ≤ m ∧ m ≤ 1000000 ∧
  ∀ r a' k', 0 ≤ r → r < m → Well a' b k' → k' ≤ k + 1 → Q (.int r) (upd H p (.lst [.int a', .int b, .int k']))
theorem draw_ask {K : PySem.W.Frag} {vs : List V} {H : Hp} {Q : VK} {E : XK} (h : spW K Sdraw Rdraw vs H Q E) : drawAsk vs H Q := by
  obtain ⟨p, ws, B, ds, n, rfl, bh, bp, ⟨a, b, k, hp, W, hk⟩, rv, ⟨m, rfl, m1, m2, hn⟩, q⟩ := h
  cases rv with
  | cons r1 r2 =>
    cases r2
    cases r1
    refine ⟨p, a, b, k, m, rfl, hp, W, by omega, m1, m2, fun r a' k' r0 r1 W' hk' => ?_⟩
    have ne : ∀ {x : Addr} {o : HO}, B x = some o → x ≠ p := fun e z => by
      rw [z, bp] at e
      cases e
    refine q (.int r) (.int r) B _ (n + 1) ⟨Ex.refl _, fun x o e => ?_, fun x o f e => ?_, fun x z _ => z⟩ ⟨a', b, k', upd_same, W', by omega⟩ (.int r) ⟨m, r, rfl, rfl, r0, r1, rfl⟩
    · rw [upd_ne (ne e)]
      exact bh x o e
    · rw [upd_ne (fun z => f (by rw [z]; rfl))]
      exact e
def Sone : List Da → Nat → Prop := fun ds n => ∃ es : List Da, ds = [.lst es] ∧ 1 ≤ es.length ∧ es.length ≤ 1000000 ∧ n < 1000000
def Rone : List Da → Nat → Da → Nat → Prop := fun ds n d n2 => ∃ es : List Da, ds = [.lst es] ∧ d ∈ es ∧ n2 = n + 1
abbrev tLen (K : PySem.W.Frag) (i : Nat) : TE := tCB (fun xs H Q => ∃ p ys, xs = [.ref p] ∧ (SqL K H p ys ∨ SqT K H p ys) ∧ Q (.int ys.length) H) (tCons (tVar i) tNil)
theorem one_body {K : PySem.W.Frag} {E : XK} {N : List Str} (hN : 2 ≤ N.length) {vs : List V} {H : Hp} {Q : VK} (h : spW K Sone Rone vs H Q E) :
    tRet (tOp (rIxL K) (tVar 1) (tCall (spW K Sdraw Rdraw) [] E0 (tCons (tVar 0) (tCons (tLen K 1) tNil)))) { nx := fun _ H' => Q .non H', rt := Q } (L2.start N vs) H := by
  refine run_W h (fun ds n ⟨es, e, _⟩ => by rw [e]; exact hN) fun p B0 H0 ds n ⟨es, e, l1, l2, hn⟩ => ?_
  subst e
  have h1 : (iniW N [.lst es])[1]? = some (.da (.lst es)) := rfl
  have h0 : (iniW N [.lst es])[0]? = some .wl := rfl
  refine s_retG (R := fun d m => d ∈ es ∧ m = n + 1) (g_op (fun d m => d = .lst es ∧ m = n) ((d_var h1).g ⟨rfl, rfl⟩) fun d m ⟨e1, e2⟩ => ?_) fun d m ⟨a, b⟩ => ⟨es, rfl, a, b⟩
  subst e1
  subst e2
  refine EvG.imp (R := Rdraw [.int (es.length : Int)] m) (g_callW h0 (Ra := fun ds k => ds = [.int (es.length : Int)] ∧ k = m) ((a_cons (d_cb (a_cons (d_var h1) a_nil) cd_len) a_nil).g ⟨rfl, rfl⟩) fun ds k ⟨e1, e2⟩ => ?_) fun d k hd => ?_
  · subst e1
    subst e2
    exact ⟨⟨_, rfl, by omega, by omega, hn⟩, fun d m2 z => z⟩
  · obtain ⟨m', r, e1, rfl, r0, r1, rfl⟩ := hd
    cases e1
    have hr1 : r.toNat < es.length := by omega
    have er : ((r.toNat : Nat) : Int) = r := Int.toNat_of_nonneg r0
    have ha : atI es r = some es[r.toNat] := by
      have e := atI_nat (xs := es) (j := r.toNat) (v := es[r.toNat]) (by rw [List.getElem?_eq_getElem hr1])
      rwa [er] at e
    refine ⟨es[r.toNat], fun B H v w n bh jn rv rw' Q q => ?_, List.getElem_mem hr1, rfl⟩
    cases rv with
    | lst hs hr =>
      cases rw'
      obtain ⟨u, hu, ru⟩ := at_map hr ha
      exact ⟨_, _, r, u, rfl, rfl, SqL.of (bh _ _ hs), hu, q u B H (Step.refl bh) jn ru⟩
end Ly


set_option Elab.async false
set_option autoImplicit false
set_option linter.all false
set_option maxRecDepth 100000
set_option maxHeartbeats 4000000
namespace Ly
open PySem PySem.Spec PyProof.Rows L2 Cmb
open Evl (Ex)
section
variable {c : Ctx} {ρ : List Cell} {n i : Nat} {te ta tb : TE} {tr : TA} {d e z : Da} {ds : List Da} {E : SE} {g g1 : TG} {wi wi1 : TI}
/-- x op= e -/
theorem s_aug {r : R2} (h : ρ[i]? = some (.da d)) (he : EvD c te ρ e) (hr : OpD c r d e z) (k : E.nx (ρ.set i (.da z)) n) : SvG c (tAug i te r) ρ n E := fun B H σ D G K => by
  obtain ⟨v, hv, rv⟩ := G.cell h
  refine ⟨v, hv, he B H σ n G _ fun w B1 H1 s1 j1 r1 => hr B1 H1 v w n s1.bh j1 (rv.up s1.eb) r1 _ fun u B2 H2 s2 j2 r2 => ?_⟩
  exact K.nx (s1.eb.trans s2.eb) (((G.step s1 j1).step s2 j2).set r2) k
theorem wipeC_len : ∀ (vs : List Nat) (ρ : List Cell), (wipeC ρ vs).length = ρ.length
  | [], _ => rfl
  | v :: vs, ρ => by
    show ((wipeC ρ vs).set v .no).length = _
    rw [List.length_set, wipeC_len]
theorem wipeC_off {j : Nat} : ∀ {vs : List Nat}, j ∉ vs → (wipeC ρ vs)[j]? = ρ[j]?
  | [], _ => rfl
  | v :: vs, h => by
    show ((wipeC ρ vs).set v .no)[j]? = _
    rw [set_off fun z => h (by rw [z]; exact List.mem_cons_self)]
    exact wipeC_off fun z => h (List.mem_cons_of_mem _ z)
theorem wipeC_mine {j : Nat} {x : Cell} : ∀ {vs : List Nat}, (wipeC ρ vs)[j]? = some x → x.mine = true → ρ[j]? = some x ∧ j ∉ vs
  | [], h, m => ⟨h, by simp⟩
  | v :: vs, h, m => by
    have h : ((wipeC ρ vs).set v .no)[j]? = some x := h
    rcases set_get h with ⟨_, e, _⟩ | ⟨ne, h⟩
    · subst e
      cases m
    · obtain ⟨h1, h2⟩ := wipeC_mine h m
      exact ⟨h1, fun z => (List.mem_cons.mp z).elim ne h2⟩
/-- the items: of the k-th, one after another -/
def catN (N : Nat) (f : Nat → List Da) : List Da := ((List.range N).map f).flatten
theorem catN_succ (N : Nat) (f : Nat → List Da) : catN (N + 1) f = catN N f ++ f N := by
  unfold catN
  rw [List.range_succ, List.map_append, List.flatten_append]
  simp
def rowN (N : Nat) (f : Nat → Da) : List Da := (List.range N).map f
theorem rowN_succ (N : Nat) (f : Nat → Da) : rowN (N + 1) f = rowN N f ++ [f N] := by
  unfold rowN
  rw [List.range_succ, List.map_append]
  rfl
/-- [e for a in xs for b in ys], all of it known -/
theorem o_lc2 {vs vs1 : List Nat} {N : Nat} {dd : Nat → Da} {N1 : Nat → Nat} {dd1 : Nat → Nat → Da} {ρ1 : Nat → List Cell} {ρ2 : Nat → Nat → List Cell} {el : Nat → Nat → Da}
    (hw : Wk c wi ρ n (Just n N dd)) (hg : ∀ k, k < N → TgW c vs g (dd k) (wipeC ρ vs) (ρ1 k)) (hm : ∀ (k j : Nat) (x : Cell), k < N → (ρ1 k)[j]? = some x → x.mine = true → (wipeC ρ vs)[j]? = some x)
    (hw1 : ∀ k, k < N → Wk c wi1 (ρ1 k) n (Just n (N1 k) (dd1 k))) (hg1 : ∀ k j, k < N → j < N1 k → TgW c vs1 g1 (dd1 k j) (wipeC (ρ1 k) vs1) (ρ2 k j)) (he : ∀ k j, k < N → j < N1 k → EvD c te (ρ2 k j) (el k j))
    (hl : (catN N fun k => rowN (N1 k) (el k)).length ≤ 100000) : EvO c (tLc2 wi g tYes wi1 g1 tYes te vs vs1) ρ n fun ds m => ds = (catN N fun k => rowN (N1 k) (el k)) ∧ m = n := fun B H σ G Q q => by
  refine hw B H σ G _ fun J N' dd' n2 B1 H1 hP s j hgo hy => ?_
  obtain ⟨rfl, rfl, en⟩ := hP
  rw [en] at j
  clear en
  intro D hD
  have G1 := (G.step s j).wiped vs
  have bD : B1 D = none := Evl.fresh_back s.bh hD
  have nF : ¬ c.F D := fun f => jnF j D f hD
  have zD : c.H0 D = none := by
    cases e : c.H0 D with
    | none => rfl
    | some o =>
      rw [G1.eh D o nF e] at hD
      cases hD
  have noD : ∀ (i : Nat) (x : Cell), (wipeC ρ vs)[i]? = some x → x.mine = true → (wipe σ vs)[i]? ≠ some (some (V.ref D)) := fun i x h mm z => by
    obtain ⟨l, o, h1, _, _, _, h5⟩ := G1.addr h mm
    rw [h1] at z
    cases z
    rw [hD] at h5
    cases h5
  let At : Hp → List Da → Prop := fun H' acc => ∃ B' xs, Step c B1 H1 B' H' ∧ Good c B' H' (wipe σ vs) (wipeC ρ vs) n ∧ H' D = some (.lst xs) ∧ Reps c.K B' xs acc ∧ B' D = none
  refine ⟨fun k m H' => m = N' - k ∧ k ≤ N' ∧ At H' (catN k fun k => rowN (N1 k) (el k)), ⟨_, rfl, Nat.zero_le _, B1, [], ⟨Ex.refl _, s.bh.trans (Ex.new hD), ExF.of (Ex.new hD), fun _ h _ => h⟩, G1.obj bD nF zD noD, upd_same, .nil, bD⟩, ?_⟩
  rintro k m H' ⟨rfl, hk, B', xs, st, G', hx, rx, bD'⟩
  by_cases lt : k < N'
  · refine .inr ⟨(hgo H' (st.eb.trans G'.bh) k).1 lt, fun H2 => At H2 (catN (k + 1) fun k => rowN (N1 k) (el k)), fun H2 r => ⟨N' - (k + 1), by omega, rfl, lt, r⟩, fun x H'' y => ?_⟩
    obtain ⟨B2, s2, j2, rd⟩ := hy H' k x H'' B' n lt st.eb G'.bh G'.jn y
    have G2 := G'.step s2 j2
    have d2 : H'' D = some (.lst xs) := s2.eh D _ nF hx
    have bd2 : B2 D = none := s2.fr D bD' (by rw [hx]; exact fun z => nomatch z)
    refine hg k lt B2 H'' (wipe σ vs) n x G2 rd _ fun τ G3 w3 => ⟨w3.trans wipe_wipe, ?_⟩
    show tYes τ H'' _
    unfold tYes
    refine (if_pos rfl).mpr ?_
    refine hw1 k lt B2 H'' τ G3 _ fun J1 N'' dd'' n3 B3 H3 hP1 s3 j3 hgo1 hy1 => ?_
    obtain ⟨e1, e2, en⟩ := hP1
    subst e1
    subst e2
    rw [en] at j3
    clear en
    have noT : ∀ (i : Nat) (x : Cell), (wipeC (ρ1 k) vs1)[i]? = some x → x.mine = true → (wipe τ vs1)[i]? ≠ some (some (V.ref D)) := fun i x h mm z => by
      obtain ⟨h1, nv⟩ := wipeC_mine h mm
      have h2 := hm k i x lt h1 mm
      obtain ⟨_, nv2⟩ := wipeC_mine h2 mm
      refine noD i x h2 mm ?_
      have z1 : τ[i]? = some (some (V.ref D)) := by
        rw [wipe_out nv] at z
        exact z
      have z2 : (wipe τ vs)[i]? = τ[i]? := wipe_out nv2
      rw [← w3.trans wipe_wipe, z2]
      exact z1
    have d3 : H3 D = some (.lst xs) := s3.eh D _ nF d2
    have bd3 : B3 D = none := s3.fr D bd2 (by rw [d2]; exact fun z => nomatch z)
    have st3 := (st.trans (jnF G'.jn) s2).trans (jnF j2) s3
    refine ⟨fun i m H4 => m = N1 k - i ∧ i ≤ N1 k ∧ ∃ B4 ys, Ex B3 B4 ∧ Step c B1 H1 B4 H4 ∧ Good c B4 H4 (wipe σ vs) (wipeC ρ vs) n ∧ Good c B4 H4 (wipe τ vs1) (wipeC (ρ1 k) vs1) n ∧ H4 D = some (.lst ys) ∧ Reps c.K B4 ys ((catN k fun k => rowN (N1 k) (el k)) ++ rowN i (el k)) ∧ B4 D = none,
      ⟨_, rfl, Nat.zero_le _, B3, xs, Ex.refl _, st3, G2.step s3 j3, (G3.step s3 j3).wiped vs1, d3, ?_, bd3⟩, ?_⟩
    · show Reps c.K B3 xs ((catN k fun k => rowN (N1 k) (el k)) ++ [])
      rw [List.append_nil]
      exact rx.up (s2.eb.trans s3.eb)
    rintro i m H4 ⟨rfl, hi, B4, ys, e4, st4, G4, T4, d4, r4, bd4⟩
    by_cases li : i < N1 k
    · refine .inr ⟨(hgo1 H4 (e4.trans G4.bh) i).1 li, fun H5 => ∃ B5 ys, Ex B3 B5 ∧ Step c B1 H1 B5 H5 ∧ Good c B5 H5 (wipe σ vs) (wipeC ρ vs) n ∧ Good c B5 H5 (wipe τ vs1) (wipeC (ρ1 k) vs1) n ∧ H5 D = some (.lst ys) ∧ Reps c.K B5 ys ((catN k fun k => rowN (N1 k) (el k)) ++ rowN (i + 1) (el k)) ∧ B5 D = none,
        fun H5 r => ⟨N1 k - (i + 1), by omega, rfl, li, r⟩, fun x1 H5 y1 => ?_⟩
      obtain ⟨B5, s5, j5, rd5⟩ := hy1 H4 i x1 H5 B4 n li e4 G4.bh G4.jn y1
      have d5 : H5 D = some (.lst ys) := s5.eh D _ nF d4
      have bd5 : B5 D = none := s5.fr D bd4 (by rw [d4]; exact fun z => nomatch z)
      have G5 := G4.step s5 j5
      have T5 := T4.step s5 j5
      refine hg1 k i lt li B5 H5 (wipe τ vs1) n x1 T5 rd5 _ fun υ U5 w5 => ⟨w5.trans wipe_wipe, ?_⟩
      refine (if_pos rfl).mpr ?_
      refine he k i lt li B5 H5 υ n U5 _ fun u B6 H6 s6 j6 ru => ?_
      have d6 : H6 D = some (.lst ys) := s6.eh D _ nF d5
      have bd6 : B6 D = none := s6.fr D bd5 (by rw [d5]; exact fun z => nomatch z)
      have G6 := G5.step s6 j6
      have T6 := T5.step s6 j6
      have st6 := (st4.trans (jnF G4.jn) s5).trans (jnF j5) s6
      have e46 := s5.eb.trans s6.eb
      have lz : ys.length < 100000 := by
        rw [r4.len]
        have a1 : ((catN k fun k => rowN (N1 k) (el k)) ++ rowN (N1 k) (el k)).length ≤ (catN N' fun k => rowN (N1 k) (el k)).length := by
          rw [← catN_succ]
          have key : ∀ M, k + 1 ≤ M → (catN (k + 1) fun k => rowN (N1 k) (el k)).length ≤ (catN M fun k => rowN (N1 k) (el k)).length := by
            intro M hM
            induction M with
            | zero => omega
            | succ M ih =>
              by_cases zz : k + 1 = M + 1
              · rw [zz]
                exact Nat.le_refl _
              · have := ih (by omega)
                rw [catN_succ M, List.length_append]
                omega
          exact key N' lt
        rw [List.length_append] at a1 ⊢
        have l1 : (rowN i (el k)).length = i := by simp [rowN]
        have l2 : (rowN (N1 k) (el k)).length = N1 k := by simp [rowN]
        omega
      refine ⟨ys, d6, Evl.sz_lt lz, B6, ys ++ [u], e4.trans e46, ⟨st6.eb, fun a o e => ?_, fun a o f e => ?_, st6.fr⟩, G6.obj bd6 nF zD noD, T6.obj bd6 nF zD noT, upd_same, ?_, bd6⟩
      · rw [upd_ne (fun z => by rw [z, bd6] at e; cases e)]
        exact st6.bh a o e
      · rw [upd_ne (fun z => by rw [z, hD] at e; cases e)]
        exact st6.eh a o f e
      · rw [rowN_succ, ← List.append_assoc]
        exact (r4.up e46).app (.cons ru .nil)
    · have ei : i = N1 k := by omega
      refine .inl ⟨(hgo1 H4 (e4.trans G4.bh) i).2 ei, B4, ys, st4, G4, d4, ?_, bd4⟩
      rw [catN_succ, ← ei]
      exact r4
  · have ek : k = N' := by omega
    refine .inl ⟨(hgo H' (st.eb.trans G'.bh) k).2 ek, ?_⟩
    have hn : H D = none := by
      cases e : H D with
      | none => rfl
      | some o =>
        rw [s.eh D o nF e] at hD
        cases hD
    rw [ek] at rx
    exact q D xs _ B' H' n hn (s.trans (jnF j) st) G'.jn bD' hx rx ⟨rfl, rfl⟩
end
end Ly


set_option Elab.async false
set_option autoImplicit false
set_option linter.all false
set_option maxRecDepth 100000
set_option maxHeartbeats 4000000
/-! enumerate(a tuple); enumerate(a list or a tuple) -/
namespace Cmb
open PySem PySem.Spec PyProof.Rows L2
open AutoSeq1 (wpAny_loadPart')
theorem new_enumT (a : Addr) (items : Array Value) (n : Nat) (dct : Option Addr) (sl : Array (Option Value)) :
    Meets (Builtin.«enumerate.__new__» ⟨[.type "enumerate", .ref a], []⟩) (fun _ R s => s.heap.get? a = some { cls := .type "tuple", dict := dct, data := .seq items n, slots := sl } ∧
      R (.ok (.ret (.ref (s.heap.push { cls := .type "tuple_iterator", data := .fields #[.ref a, .int 0 0] }).objs.size))) { s with heap := (s.heap.push { cls := .type "tuple_iterator", data := .fields #[.ref a, .int 0 0] }).push { cls := .type "enumerate", data := .fields #[.none, .bool false, .ref s.heap.objs.size, rawInt 0, .none, .none] } }) :=
  .of_wp fun prog w A R s h => by
    obtain ⟨hp, g, d, tk, os⟩ := s
    obtain ⟨ht, h⟩ := h
    have subs := sub_enumerate
    have hT : Heap.IsTuple (Shared.heap ⟨hp, g, d, tk, os⟩) a items := ⟨_, ht, rfl, n, rfl⟩
    wp_walk using wpAny_loadPart' ht
    refine wpAny_stack_any fun st => wpAny_pure ?_
    split
    · rename_i c _ _ _ _ _
      cases (c == Value.type "enumerate") with
      | true =>
        wp_walk using wpAny_loadPart' ht, wpAny_pyIter_tuple hT
        exact ⟨_, rfl, h⟩
      | false =>
        wp_walk using wpAny_loadPart' ht, wpAny_pyIter_tuple hT
        exact ⟨_, rfl, h⟩
    · wp_walk using wpAny_loadPart' ht, wpAny_pyIter_tuple hT
      exact ⟨_, rfl, h⟩
theorem call_enumT {prog : Program} {w : World} {A : Around} {E : Value → Shared → Prop} {s : Shared} {a : Addr} {items : Array Value} {Q : Value → Shared → Prop} (hT : s.heap.IsTuple a items)
    (h : ∀ h', IsEnum h' (s.heap.objs.size + 1) s.heap.objs.size 0 .none → h'.IsTupleIter s.heap.objs.size a 0 → (∀ b o, s.heap.get? b = some o → h'.get? b = some o) → Q (.ref (s.heap.objs.size + 1)) { s with heap := h' }) : wpAny (model prog w) A (call (.type "enumerate") [.ref a]) Q E s := by
  obtain ⟨⟨c, dct, dt, sl⟩, hl, hc, n, hd⟩ := hT
  have hc : c = .type "tuple" := hc
  have hd : dt = .seq items n := hd
  subst hc
  subst hd
  refine callType_new F.called_enumerate (by decide) (F.typeCall_enumerate_1 _) (F.newCall_enumerate_1 _) (fun obj => F.args_object_init_2 obj _) F.entry_enumerate_new (new_enumT a items n dct sl) ⟨hl, ?_⟩
  have z : (s.heap.push { cls := .type "tuple_iterator", data := .fields #[.ref a, .int 0 0] }).objs.size = s.heap.objs.size + 1 := Heap.size_push ..
  have g := Heap.get?_push_size (s.heap.push { cls := .type "tuple_iterator", data := .fields #[.ref a, .int 0 0] }) (o := { cls := .type "enumerate", data := .fields #[.none, .bool false, .ref s.heap.objs.size, rawInt 0, .none, .none] }) rfl
  rw [z] at g
  show _ ∧ _
  rw [z]
  exact ⟨⟨_, g, rfl⟩, h _ g ⟨_, Heap.get?_push_of_some _ (Heap.get?_push_size _ rfl), rfl, rfl⟩ fun b o x => Heap.get?_push_of_some _ (Heap.get?_push_of_some _ x)⟩
/-- the tuple at a, each item in a new pair -/
def IteT (K : PySem.W.Frag) (a : Addr) : It :=
  ⟨fun i H => ∃ (xs : List V) (x : V), SqT K H a xs ∧ xs[i]? = some x, fun i H v H' => ∃ T x, v = .ref T ∧ H T = none ∧ H' = upd H T (.tup [.int (i : Nat), x]) ∧ ∀ xs, SqT K H a xs → xs[i]? = some x, fun i H => ∃ xs : List V, SqT K H a xs ∧ xs.length ≤ i⟩
theorem turn_enumT {P : Program} {w : World} {K : PySem.W.Frag} {elts : List Expr} {kk : Nat} {tpos : Pos} (a e it : Addr) :
    Turn P w K (.Tuple elts kk tpos) (IteT K a) [e, it] e (fun i h => (∃ old, IsEnum h e it ((i : Nat) : Int) old) ∧ h.IsTupleIter it a i ∧ e ≠ it) where
  mem := by simp
  obj := fun i h st b hb => by
    obtain ⟨⟨old, he⟩, ⟨o, ho, hc, hd⟩, _⟩ := st
    rcases List.mem_cons.mp hb with z | z
    · exact ⟨_, by rw [z]; exact he, fun v q => nomatch (show Data.fields _ = Data.cell v from q)⟩
    · exact ⟨o, by rw [List.mem_singleton.mp z]; exact ho, fun v q => by rw [hd] at q; cases q⟩
  keep := fun i h h' st k => by
    obtain ⟨⟨old, he⟩, ⟨o, ho, r⟩, ne⟩ := st
    exact ⟨⟨old, k e (by simp) _ he⟩, ⟨o, k it (by simp) _ ho, r⟩, ne⟩
  item := by
    intro X hP hw hK hc i pins s σ H E I hf st hg
    subst hP hw hK
    obtain ⟨⟨old, he⟩, hit, ne⟩ := st
    obtain ⟨xs, x, hq, hx⟩ := hg
    obtain ⟨its, rv, p, hz⟩ := I.tuple hq
    obtain ⟨u, hu, ru⟩ := rv.get hx
    have pT : s.heap.IsTuple a its.toArray := p
    have el : e < s.heap.objs.size := Heap.lt_size he
    have il : it < s.heap.objs.size := let ⟨_, q, _⟩ := hit; Heap.lt_size q
    have ai : a ≠ it := fun z => by
      obtain ⟨o, g1, g2, _⟩ := pT
      obtain ⟨o', k1, k2, _⟩ := hit
      rw [z, k1] at g1
      cases g1
      rw [g2] at k2
      exact absurd k2 (by decide)
    have ae : a ≠ e := fun z => by
      obtain ⟨o, g1, g2, _⟩ := pT
      rw [z, he] at g1
      cases g1
      exact absurd (show Value.type "enumerate" = Value.type "tuple" from g2) (by decide)
    have D := Draws.tuple (prog := X.prog) (w := X.w) (A := X.A.in1) (I.ok.hd hc) it a ai its.toArray
    have hlt : i < its.toArray.size := by
      rw [List.size_toArray]
      exact (List.getElem?_eq_some_iff.mp hu).1
    refine wpAny_pyNext_enum_itemD D he ⟨hit, pT⟩ hlt ne (by simp only [List.mem_cons, List.not_mem_nil, or_false, not_or]; exact ⟨ne, Ne.symm ae⟩) fun y h' tk hy ho st' hT hsz hk => ⟨_, rfl, ?_⟩
    have ey : y = u := by
      have z : its.toArray[i]? = some y := hy
      rw [List.getElem?_toArray, hu] at z
      exact (Option.some.inj z).symm
    subst ey
    refine wpAny_letOwnedTupleGo_enum (s := { s with heap := h', toks := tk + 1 }) ho fun h'' he' sb => ?_
    have hT2 : h''.get? s.heap.objs.size = some { cls := .type "tuple", data := .seq #[.int i tk, y] } := (sb.2 _ (Nat.ne_of_gt el)).trans hT
    have new : ObjOk X.prog X.w (upd H s.heap.objs.size (.tup [.int (i : Nat), x])) h'' s.heap.objs.size (.tup [.int (i : Nat), x]) := ⟨by show 2 ≤ sizeLine; decide, [.int i tk, y], .cons ⟨_, rfl⟩ (.cons ru .nil), ⟨_, hT2, rfl, _, rfl⟩⟩
    have I1 : Inv X pins σ (upd H s.heap.objs.size (.tup [.int (i : Nat), x])) { s with heap := h'', toks := tk + 1 } := I.turnedNew (ch := [e, it]) (fun b ob hb q => (sb.2 b fun z => hb (by simp [z])).trans (hk b ob (fun z => hb (by simp [z])) (fun z => hb (by simp [z])) q)) hf (Nat.le_refl _) new
    refine ⟨.ref s.heap.objs.size, _, I1, rfl, ⟨_, x, rfl, I.hok.fresh (Nat.le_refl _), rfl, fun ys hy => by rw [I.tuple_inj hy hq]; exact hx⟩, ⟨⟨y, ?_⟩, ?_, ne⟩, fun b hb => ?_⟩
    · have e1 : ((i + 1 : Nat) : Int) = (i : Int) + 1 := by omega
      rw [e1]
      exact he'
    · obtain ⟨o, g1, g2⟩ := st'.1
      exact ⟨o, (sb.2 it (Ne.symm ne)).trans g1, g2⟩
    · have lb : b < s.heap.objs.size := by
        rcases List.mem_cons.mp hb with z | z
        · rw [z]
          exact el
        · rw [List.mem_singleton.mp z]
          exact il
      rw [upd_ne (Nat.ne_of_lt lb)]
      exact (hf b hb).1
  done := by
    intro X hP hw hK hc i pins s σ H E I hf st hg
    subst hP hw hK
    obtain ⟨⟨old, he⟩, hit, ne⟩ := st
    obtain ⟨xs, hq, hx⟩ := hg
    obtain ⟨its, rv, p, hz⟩ := I.tuple hq
    obtain ⟨f0, f1, f2, f3, f4, f5⟩ := hf it (by simp)
    have ty : s.TypeIs (.ref e) "enumerate" := ⟨_, he, rfl⟩
    have pT : s.heap.IsTuple a its.toArray := p
    unfold pyNext
    refine wpAny_bind (wpAny_attempt (wpAny_callSpecial?_slot (name := Str.ofString "__next__") ty F.slot_enumerate_next (wpAny_call_entry F.slot_enumerate_next ty F.entry_enumerate_next ?_ (F.args_enumerate_next_1 _))))
    show wpAny _ _ (field (.ref e) 2 >>= _) _ _ _
    refine wpAny_bind (wpAny_field he rfl (x := .ref it) rfl ?_)
    refine wpAny_bind (wpAny_nextOf_tuple_end (A := X.A.in1) (I.ok.hd hc) hit pT (by rw [List.getElem?_toArray]; exact List.getElem?_eq_none (by rw [← rv.length]; exact hx)) fun h' x eb ⟨o, ho, hcl⟩ => ?_)
    refine wpAny_bind (wpAny_isInstance (T := "StopIteration") (b := true) ⟨o, ho, hcl⟩ isSubtype_stop ?_)
    exact wpAny_pure ⟨rfl, I.turned (t' := s.toks) (fun b o hb q => eb b o hb q) f0 f1 f3 f4 f5⟩
  self := fun A i s Q E st h => let ⟨⟨_, he⟩, _⟩ := st; wpAny_pyIter_enum he h
/-! ### for i, x in enumerate(a list or a tuple) -/
def iEnumS (K : PySem.W.Frag) (ta : TA) : TI := fun σ H R => ta σ H fun vs H1 => ∃ a, vs = [.ref a] ∧ (((∃ xs, SqL K H1 a xs) ∧ R (Ite K a) H1) ∨ ((∃ xs, SqT K H1 a xs) ∧ R (IteT K a) H1))
theorem pi_enumS {X : Cx} {e : Expr} {ta : TA} {p pos tpos : Pos} {elts : List Expr} {kk : Nat} (hg : Gl X "enumerate") (hm : X.mg "enumerate" = none) (ha : PA X [e] ta) (hs : starEach [e] X.env = [(false, eval e X.env)] := by rfl) :
    PI X (.Tuple elts kk tpos) (.Call (.Name "enumerate" p) [e] [] pos) (iEnumS X.K ta) := by
  refine ⟨fun pins s σ H R I h => ?_⟩
  refine Call_ (ld_blt I hg hm boot_enumerate (PyProof.Rows.callWith_type1 (thn (ha.run pos pins s σ H _ I h) fun us s1 ⟨vs, H1, I1, r1, a, ex, q1⟩ => ?_) hs rfl))
  subst ex
  cases r1 with
  | cons r rr =>
    cases rr
    cases r
    have fpok : ∀ b, b ∈ [s1.heap.objs.size + 1, s1.heap.objs.size] → FpOk X pins H1 b := fun b hb => by
      have le : s1.heap.objs.size ≤ b := by
        rcases List.mem_cons.mp hb with z | z
        · rw [z]
          exact Nat.le_succ _
        · rw [List.mem_singleton.mp z]
          exact Nat.le_refl _
      exact I1.fpOk le (I1.hok.fresh le)
    rcases q1 with ⟨⟨xs, hq⟩, q⟩ | ⟨⟨xs, hq⟩, q⟩
    · obtain ⟨its, rv, p', hz⟩ := I1.list hq
      refine call_enumerate_list p'.isList fun h' he hit _ hk => wpAny_pyIter_enum he ⟨s1.heap.objs.size + 1, [s1.heap.objs.size + 1, s1.heap.objs.size], _, _, H1, rfl, I1.kept (t' := s1.toks) hk, turn_enum a (s1.heap.objs.size + 1) s1.heap.objs.size, ⟨⟨.none, he⟩, hit, Nat.succ_ne_self _⟩, fpok, q⟩
    · obtain ⟨its, rv, p', hz⟩ := I1.tuple hq
      refine call_enumT (show s1.heap.IsTuple a its.toArray from p') fun h' he hit hk => wpAny_pyIter_enum he ⟨s1.heap.objs.size + 1, [s1.heap.objs.size + 1, s1.heap.objs.size], _, _, H1, rfl, I1.kept (t' := s1.toks) hk, turn_enumT a (s1.heap.objs.size + 1) s1.heap.objs.size, ⟨⟨.none, he⟩, hit, Nat.succ_ne_self _⟩, fpok, q⟩
end Cmb


set_option Elab.async false
set_option autoImplicit false
set_option linter.all false
set_option maxRecDepth 100000
set_option maxHeartbeats 4000000
namespace Ly
open PySem PySem.Spec PyProof.Rows L2 Cmb
open Evl (Ex)
section
variable {c : Ctx} {ρ : List Cell} {n : Nat} {te : TE} {tr : TA} {d : Da} {ds : List Da}
theorem wk_enumS (h : EvA c tr ρ [d]) (hd : d.its = some ds) : Wk c (iEnumS c.K tr) ρ n (Just n ds.length (pairK ds)) := fun B H σ G S q => h B H σ n G _ fun vs B1 H1 s j r => by
  cases r with
  | cons r1 r2 =>
    cases r2
    cases r1 with
    | @lst a xs _ hb hr =>
      cases hd
      have sq : ∀ H', Ex B1 H' → SqL c.K H' a xs := fun H' e => SqL.of (e _ _ hb)
      refine ⟨a, rfl, .inl ⟨⟨xs, sq _ s.bh⟩, q _ _ _ _ B1 H1 ⟨rfl, rfl, rfl⟩ s j (fun H' e k => ⟨fun lt => ?_, fun ek => ?_⟩) fun H' k x H'' B' n' lt e e' j' y => ?_⟩⟩
      · exact (walk_enum (xs := xs)).goes k H' (by rw [hr.len]; exact lt) (sq H' e)
      · rw [ek, ← hr.len]
        exact walk_enum.stops H' (sq H' e)
      · obtain ⟨T, x1, y1, ev, nT, eh, g1, g2⟩ := (walk_enum (xs := xs)).yields k H' x H'' (by rw [hr.len]; exact lt) (sq H' (e.trans e')) y
        subst ev
        subst eh
        cases g1
        obtain ⟨d, hd, rd⟩ := hr.got g2
        have st : Step c B' H' (upd B' T (.tup [.int (k : Int), y1])) (upd H' T (.tup [.int (k : Int), y1])) := step_new e' nT
        refine ⟨_, st, J.up j' (Ex.new nT), ?_⟩
        unfold pairK
        rw [nth_at hd]
        exact .tup (SqT.of upd_same) (.cons (.int _) (.cons ((rd.up e).up st.eb) .nil))
    | @tup a xs _ hb hr =>
      cases hd
      have sq : ∀ H', Ex B1 H' → SqT c.K H' a xs := fun H' e => Evl.ex_t e hb
      refine ⟨a, rfl, .inr ⟨⟨xs, sq _ s.bh⟩, q _ _ _ _ B1 H1 ⟨rfl, rfl, rfl⟩ s j (fun H' e k => ⟨fun lt => ?_, fun ek => ?_⟩) fun H' k x H'' B' n' lt e e' j' y => ?_⟩⟩
      · have lk : k < xs.length := by
          rw [hr.len]
          exact lt
        have hk : xs[k]? = some xs[k] := List.getElem?_eq_getElem lk
        exact ⟨xs, _, sq H' e, hk⟩
      · exact ⟨xs, sq H' e, by rw [ek, hr.len]; exact Nat.le_refl _⟩
      · obtain ⟨T, y1, ev, nT, eh, gg⟩ := y
        subst ev
        subst eh
        have g3 := gg xs (sq H' (e.trans e'))
        obtain ⟨d, hd, rd⟩ := hr.got g3
        have st : Step c B' H' (upd B' T (.tup [.int (k : Int), y1])) (upd H' T (.tup [.int (k : Int), y1])) := step_new e' nT
        refine ⟨_, st, J.up j' (Ex.new nT), ?_⟩
        unfold pairK
        rw [nth_at hd]
        exact .tup (SqT.of upd_same) (.cons (.int _) (.cons ((rd.up e).up st.eb) .nil))
    | non => cases hd
    | bl b => cases hd
    | int i => cases hd
    | str s => cases hd
    | ob hb hr => cases hd
end
end Ly


set_option Elab.async false
set_option autoImplicit false
set_option linter.all false
set_option maxRecDepth 100000
set_option maxHeartbeats 4000000
namespace Ly
open PySem PySem.Spec PyProof.Rows L2 Cmb
open Evl (Ex)
section
variable {c : Ctx} {ρ : List Cell} {n : Nat} {te ta : TE} {tt : TT} {g : TG} {wi : TI} {d : Da} {ds : List Da}
/-- a value by its truth -/
abbrev tTru (K : PySem.W.Frag) (ta : TE) : TT := fun σ H Q => ta σ H fun x H' => ∃ k, TruV K x H' k ∧ Q k H'
theorem t_truI {i : Int} (h : EvD c ta ρ (.int i)) : EvT c (tTru c.K ta) ρ (i != 0) := fun B H σ n G Q q => h B H σ n G _ fun v B1 H1 s j r => by
  cases r
  exact ⟨_, rfl, q B1 H1 s j⟩
theorem t_truL (h : EvD c ta ρ d) (hd : d.its = some ds) : EvT c (tTru c.K ta) ρ (!ds.isEmpty) := fun B H σ n G Q q => h B H σ n G _ fun v B1 H1 s j r => by
  obtain ⟨a, xs, rfl, hs, hr⟩ := r.sq s.bh hd
  have e : (!xs.isEmpty) = !ds.isEmpty := by
    cases hr <;> rfl
  rcases hs with hs | hs
  · exact ⟨_, .inl ⟨xs, hs, e.symm⟩, q B1 H1 s j⟩
  · exact ⟨_, .inr (.inl ⟨xs, hs, e.symm⟩), q B1 H1 s j⟩
theorem t_yes : EvT c tYes ρ true := fun B H σ n G Q q => q B H (Step.refl G.bh) G.jn
/-- [e for a in xs if t], all of it known -/
theorem o_lcK {vs : List Nat} {N : Nat} {dd : Nat → Da} {ρ2 : Nat → List Cell} {b : Nat → Bool} {el : Nat → Da} (hw : Wk c wi ρ n (Just n N dd)) (hN : N ≤ 100000) (hg : ∀ k, k < N → TgW c vs g (dd k) (wipeC ρ vs) (ρ2 k)) (ht : ∀ k, k < N → EvT c tt (ρ2 k) (b k))
    (he : ∀ k, k < N → b k = true → EvD c te (ρ2 k) (el k)) : EvO c (tLc wi g tt te vs) ρ n fun ds m => ds = ((List.range N).filter b).map el ∧ m = n := by
  refine o_lcP hw fun N' dd' n2 hP => ?_
  obtain ⟨e1, e2, e3⟩ := hP
  subst e1
  subst e2
  subst e3
  refine ⟨hN, fun k acc n' => acc = ((List.range k).filter b).map el ∧ n' = n2, ⟨rfl, rfl⟩, fun k acc n' hk ⟨ea, en⟩ => ?_, fun acc n' z => z⟩
  subst en
  refine ⟨ρ2 k, b k, hg k hk, ht k hk, fun hb => ?_, fun hb => ?_⟩
  · refine (he k hk hb).g ⟨?_, rfl⟩
    rw [ea, List.range_succ, List.filter_append, List.map_append]
    simp [hb]
  · refine ⟨?_, rfl⟩
    rw [ea, List.range_succ, List.filter_append, List.map_append]
    simp [hb]
theorem d_bits {i : Int} (h : EvD c ta ρ (.int i)) : EvD c (tBits ta) ρ (.int (Builtin.Int.intBits i : Nat)) := fun B H σ n G Q q => h B H σ n G _ fun v B1 H1 s j r => by
  cases r
  exact ⟨i, rfl, q _ B1 H1 s j (.int _)⟩
/-- a new list of one's own that is known, as a value -/
theorem d_ofO (h : ∀ n, EvO c te ρ n fun es m => es = ds ∧ m = n) : EvD c te ρ (.lst ds) := fun B H σ n G Q q => (h n).fz (R := fun e m => e = .lst ds ∧ m = n) (fun es m z => ⟨by rw [z.1], z.2⟩) B H σ G Q fun v e B2 H2 m s j r z => by
  obtain ⟨rfl, rfl⟩ := z
  exact q v B2 H2 s j r
end
end Ly


set_option Elab.async false
set_option autoImplicit false
set_option linter.all false
set_option maxRecDepth 100000
set_option maxHeartbeats 4000000
/-! Calendars: counting the slots that work, by whole turns of the cycle and the changes. -/
namespace Cal
def b2 (b : Bool) : Int := if b then 1 else 0
theorem b2_0 (b : Bool) : 0 ≤ b2 b := by cases b <;> decide
theorem b2_1 (b : Bool) : b2 b ≤ 1 := by cases b <;> decide
/-- how many of the first n slots are so -/
def cnt (f : Int → Bool) : Nat → Int
  | 0 => 0
  | n + 1 => cnt f n + b2 (f n)
theorem cnt_0 (f : Int → Bool) (n : Nat) : 0 ≤ cnt f n := by
  induction n with
  | zero => exact Int.le_refl _
  | succ n ih =>
    have := b2_0 (f n)
    show 0 ≤ cnt f n + b2 (f n)
    omega
theorem cnt_mono (f : Int → Bool) (n k : Nat) : cnt f n ≤ cnt f (n + k) := by
  induction k with
  | zero => exact Int.le_refl _
  | succ k ih =>
    have := b2_0 (f (n + k : Nat))
    show cnt f n ≤ cnt f (n + k) + b2 (f (n + k : Nat))
    omega
theorem cnt_le (f : Int → Bool) {n m : Nat} (h : n ≤ m) : cnt f n ≤ cnt f m := by
  have := cnt_mono f n (m - n)
  rwa [Nat.add_sub_cancel' h] at this
theorem cnt_lt (f : Int → Bool) {n m : Nat} (h : n < m) (w : f n = true) : cnt f n < cnt f m := by
  have h1 : cnt f (n + 1) ≤ cnt f m := cnt_le f h
  have h2 : cnt f (n + 1) = cnt f n + b2 (f n) := rfl
  rw [w] at h2
  have : b2 true = 1 := rfl
  omega
/-- the one slot that works with so many ahead of it -/
theorem cnt_uniq (f : Int → Bool) {n m : Nat} (w1 : f n = true) (w2 : f m = true) (h : cnt f n = cnt f m) : n = m := by
  rcases Nat.lt_trichotomy n m with l | e | l
  · have := cnt_lt f l w1
    omega
  · exact e
  · have := cnt_lt f l w2
    omega
theorem cnt_ext {f g : Int → Bool} : ∀ {n : Nat}, (∀ k : Nat, k < n → f k = g k) → cnt f n = cnt g n
  | 0, _ => rfl
  | n + 1, h => by
    show cnt f n + b2 (f n) = cnt g n + b2 (g n)
    rw [cnt_ext (n := n) (f := f) (g := g) (fun k hk => h k (by omega)), h n (by omega)]
/-! ### by the cycle alone -/
def places (c : List Bool) : List Int := ((List.range c.length).filter fun k => c.getD k false).map fun (k : Nat) => (k : Int)
def byC (c : List Bool) (s : Int) : Bool := c.getD (s % (c.length : Int)).toNat false
def rank (c : List Bool) (r : Int) : Int := (((places c).filter fun p => decide (p < r)).length : Int)
def ahead (c : List Bool) (s : Int) : Int := s / (c.length : Int) * ((places c).length : Int) + rank c (s % (c.length : Int))
def slotC (c : List Bool) (b : Int) : Int := b / ((places c).length : Int) * (c.length : Int) + (places c).getD (b % ((places c).length : Int)).toNat 0
theorem rank_range (p : Nat → Bool) (k : Nat) : ∀ n : Nat, k ≤ n → (((List.range n).filter p).filter fun i => decide (i < k)) = (List.range k).filter p := by
  intro n
  induction n with
  | zero =>
    intro h
    have : k = 0 := by omega
    subst this
    rfl
  | succ n ih =>
    intro h
    by_cases e : k = n + 1
    · subst e
      refine List.filter_eq_self.mpr fun a ha => ?_
      exact decide_eq_true (List.mem_range.mp (List.mem_filter.mp ha).1)
    · rw [List.range_succ, List.filter_append, List.filter_append, ih (by omega)]
      have : (List.filter (fun i => decide (i < k)) (List.filter p [n])) = [] := by
        refine List.filter_eq_nil_iff.mpr fun a ha => ?_
        have : a = n := List.mem_singleton.mp (List.mem_filter.mp ha).1
        rw [decide_eq_true_eq]
        omega
      rw [this, List.append_nil]
theorem rank_eq (c : List Bool) {k : Nat} (h : k ≤ c.length) : rank c (k : Int) = (((List.range k).filter fun i => c.getD i false).length : Int) := by
  unfold rank places
  rw [List.filter_map, List.length_map]
  have e : ((fun p => decide (p < (k : Int))) ∘ fun i : Nat => (i : Int)) = fun i : Nat => decide (i < k) := by
    funext i
    simp
  rw [e, rank_range _ k _ h]
theorem rank_succ (c : List Bool) {k : Nat} (h : k < c.length) : rank c ((k + 1 : Nat) : Int) = rank c (k : Int) + b2 (c.getD k false) := by
  rw [rank_eq c h, rank_eq c (Nat.le_of_lt h), List.range_succ, List.filter_append, List.length_append]
  cases e : c.getD k false with
  | true =>
    rw [List.filter_cons, if_pos e]
    show (((_ + 1 : Nat)) : Int) = _ + 1
    omega
  | false =>
    rw [List.filter_cons, if_neg (by rw [e]; decide)]
    show (((_ + 0 : Nat)) : Int) = _ + 0
    omega
theorem rank_all (c : List Bool) : rank c (c.length : Int) = ((places c).length : Int) := by
  rw [rank_eq c (Nat.le_refl _)]
  unfold places
  rw [List.length_map]
theorem rank_zero (c : List Bool) : rank c 0 = 0 := by
  have := rank_eq c (Nat.zero_le _)
  exact this
theorem ahead_succ (c : List Bool) (hL : 0 < c.length) (n : Nat) : ahead c ((n + 1 : Nat) : Int) = ahead c (n : Int) + b2 (byC c (n : Int)) := by
  have hL' : (0 : Int) < (c.length : Int) := by omega
  have e1 : (n : Int) % (c.length : Int) = ((n % c.length : Nat) : Int) := (Int.natCast_emod n c.length).symm
  have e2 : (n : Int) / (c.length : Int) = ((n / c.length : Nat) : Int) := (Int.natCast_ediv n c.length).symm
  have e3 : ((n + 1 : Nat) : Int) % (c.length : Int) = (((n + 1) % c.length : Nat) : Int) := (Int.natCast_emod (n + 1) c.length).symm
  have e4 : ((n + 1 : Nat) : Int) / (c.length : Int) = (((n + 1) / c.length : Nat) : Int) := (Int.natCast_ediv (n + 1) c.length).symm
  have hr : n % c.length < c.length := Nat.mod_lt _ hL
  have dm := Nat.div_add_mod n c.length
  unfold ahead byC
  rw [e1, e2, e3, e4, Int.toNat_natCast]
  by_cases h : n % c.length + 1 < c.length
  · have q1 : (n + 1) / c.length = n / c.length := by
      rw [Nat.div_eq_iff hL]
      have : c.length * (n / c.length) = n / c.length * c.length := Nat.mul_comm _ _
      have : (n / c.length + 1) * c.length = n / c.length * c.length + c.length := Nat.succ_mul _ _
      omega
    have q2 : (n + 1) % c.length = n % c.length + 1 := by
      have dm2 := Nat.div_add_mod (n + 1) c.length
      rw [q1] at dm2
      omega
    rw [q1, q2, rank_succ c hr]
    omega
  · have hc : n % c.length + 1 = c.length := by omega
    have q1 : (n + 1) / c.length = n / c.length + 1 := by
      rw [Nat.div_eq_iff hL]
      have : c.length * (n / c.length) = n / c.length * c.length := Nat.mul_comm _ _
      have : (n / c.length + 1) * c.length = n / c.length * c.length + c.length := Nat.succ_mul _ _
      have : (n / c.length + 1 + 1) * c.length = (n / c.length + 1) * c.length + c.length := Nat.succ_mul _ _
      omega
    have q2 : (n + 1) % c.length = 0 := by
      have dm2 := Nat.div_add_mod (n + 1) c.length
      rw [q1, Nat.mul_add, Nat.mul_one] at dm2
      omega
    have q3 := rank_succ c hr
    rw [hc, rank_all] at q3
    rw [q1, q2]
    have z : rank c ((0 : Nat) : Int) = 0 := rank_zero c
    rw [z, Int.natCast_add, Int.add_mul]
    have : ((1 : Nat) : Int) * ((places c).length : Int) = ((places c).length : Int) := Int.one_mul _
    omega
theorem ahead_zero (c : List Bool) : ahead c 0 = 0 := by
  unfold ahead
  rw [Int.zero_ediv, Int.zero_emod, Int.zero_mul, rank_zero]
  rfl
theorem ahead_cnt (c : List Bool) (hL : 0 < c.length) : ∀ n : Nat, ahead c (n : Int) = cnt (byC c) n
  | 0 => ahead_zero c
  | n + 1 => by
    rw [ahead_succ c hL n, ahead_cnt c hL n]
    rfl
/-! ### the slot of the cycle -/
theorem asc_rank : ∀ {l : List Int}, l.Pairwise (· < ·) → ∀ {i : Nat} (h : i < l.length), (l.filter fun p => decide (p < l[i])).length = i
  | [], _, i, h => absurd h (Nat.not_lt_zero _)
  | a :: l, s, i, h => by
    obtain ⟨h1, h2⟩ := List.pairwise_cons.mp s
    cases i with
    | zero =>
      show ((a :: l).filter fun p => decide (p < a)).length = 0
      rw [List.filter_eq_nil_iff.mpr]
      · rfl
      · intro x hx
        rw [decide_eq_true_eq]
        rcases List.mem_cons.mp hx with e | m
        · omega
        · have := h1 x m
          omega
    | succ i =>
      have hi : i < l.length := Nat.lt_of_succ_lt_succ h
      have e : (a :: l)[i + 1] = l[i] := rfl
      rw [e, List.filter_cons, if_pos (decide_eq_true (h1 _ (List.getElem_mem hi))), List.length_cons, asc_rank h2 hi]
theorem places_asc (c : List Bool) : (places c).Pairwise (· < ·) := by
  unfold places
  rw [List.pairwise_map]
  refine List.Pairwise.filter _ ?_
  exact (List.pairwise_lt_range (n := c.length)).imp fun h => by omega
theorem places_mem {c : List Bool} {p : Int} (h : p ∈ places c) : 0 ≤ p ∧ p < (c.length : Int) ∧ c.getD p.toNat false = true := by
  unfold places at h
  obtain ⟨k, hk, rfl⟩ := List.mem_map.mp h
  obtain ⟨h1, h2⟩ := List.mem_filter.mp hk
  have := List.mem_range.mp h1
  refine ⟨by omega, by omega, ?_⟩
  rw [Int.toNat_natCast]
  exact h2
theorem slotC_ok (c : List Bool) (hP : 0 < (places c).length) {b : Int} (hb : 0 ≤ b) : 0 ≤ slotC c b ∧ byC c (slotC c b) = true ∧ ahead c (slotC c b) = b := by
  have hP' : (0 : Int) < ((places c).length : Int) := by omega
  have r0 := Int.emod_nonneg b (show ((places c).length : Int) ≠ 0 by omega)
  have r1 := Int.emod_lt_of_pos b hP'
  have hi : (b % ((places c).length : Int)).toNat < (places c).length := by omega
  have d0 : 0 ≤ b / ((places c).length : Int) := Int.ediv_nonneg hb (by omega)
  have eg : (places c).getD (b % ((places c).length : Int)).toNat 0 = (places c)[(b % ((places c).length : Int)).toNat] := by
    rw [List.getD_eq_getElem?_getD, List.getElem?_eq_getElem hi]
    rfl
  obtain ⟨m0, m1, m2⟩ := places_mem (List.getElem_mem hi)
  have hL : (0 : Int) < (c.length : Int) := by omega
  have ed : slotC c b / (c.length : Int) = b / ((places c).length : Int) := by
    unfold slotC
    rw [eg, Int.add_comm, Int.add_mul_ediv_right _ _ (by omega), Int.ediv_eq_zero_of_lt m0 m1, Int.zero_add]
  have em : slotC c b % (c.length : Int) = (places c)[(b % ((places c).length : Int)).toNat] := by
    unfold slotC
    rw [eg, Int.add_comm, Int.add_mul_emod_self_right, Int.emod_eq_of_lt m0 m1]
  refine ⟨?_, ?_, ?_⟩
  · unfold slotC
    rw [eg]
    have := Int.mul_nonneg d0 (Int.le_of_lt hL)
    omega
  · unfold byC
    rw [em]
    exact m2
  · unfold ahead
    rw [ed, em]
    unfold rank
    rw [asc_rank (places_asc c) hi]
    have := Int.mul_ediv_add_emod b ((places c).length : Int)
    have e2 : ((places c).length : Int) * (b / ((places c).length : Int)) = b / ((places c).length : Int) * ((places c).length : Int) := Int.mul_comm _ _
    omega
theorem places_pos {c : List Bool} (h : true ∈ c) : 0 < (places c).length := by
  obtain ⟨i, hi, e⟩ := List.getElem_of_mem h
  refine List.length_pos_of_mem (a := (i : Int)) ?_
  unfold places
  refine List.mem_map.mpr ⟨i, List.mem_filter.mpr ⟨List.mem_range.mpr hi, ?_⟩, rfl⟩
  rw [List.getD_eq_getElem?_getD, List.getElem?_eq_getElem hi]
  exact e
/-! ### changes -/
abbrev Chs := List (Int × Bool)
def gain (c : List Bool) (s : Int) (w : Bool) : Int := b2 w - b2 (byC c s)
def works (c : List Bool) : Chs → Int → Bool
  | [], s => byC c s
  | q :: r, s => if q.1 = s then q.2 else works c r s
def gains (c : List Bool) (ch : Chs) : Int := (ch.map fun q => gain c q.1 q.2).sum
def wAhead (c : List Bool) (ch : Chs) (s : Int) : Int := ahead c s + gains c (ch.filter fun q => decide (q.1 < s))
/-- slots ascend from lo on -/
def Asc : Int → Chs → Prop
  | _, [] => True
  | lo, q :: r => lo < q.1 ∧ Asc q.1 r
theorem Asc.low : ∀ {r : Chs} {lo lo' : Int}, Asc lo r → lo' ≤ lo → Asc lo' r
  | [], _, _, _, _ => True.intro
  | _ :: _, _, _, h, l => ⟨Int.lt_of_le_of_lt l h.1, h.2⟩
theorem Asc.lt : ∀ {r : Chs} {lo : Int}, Asc lo r → ∀ q ∈ r, lo < q.1
  | [], _, _, q, h => by cases h
  | a :: r, lo, h, q, m => by
    rcases List.mem_cons.mp m with e | m
    · subst e
      exact h.1
    · have := Asc.lt h.2 q m
      have := h.1
      omega
theorem works_not (c : List Bool) {s : Int} : ∀ {r : Chs}, (∀ q ∈ r, q.1 ≠ s) → works c r s = byC c s
  | [], _ => rfl
  | q :: r, h => by
    unfold works
    rw [if_neg (h q List.mem_cons_self)]
    exact works_not c fun p hp => h p (List.mem_cons_of_mem _ hp)
theorem cnt_upd {f g : Int → Bool} {t : Nat} (h : ∀ s : Int, s ≠ (t : Int) → g s = f s) : ∀ n : Nat, cnt g n = cnt f n + if t < n then b2 (g t) - b2 (f t) else 0
  | 0 => by
    show (0 : Int) = 0 + _
    rw [if_neg (Nat.not_lt_zero _)]
    rfl
  | n + 1 => by
    show cnt g n + b2 (g n) = cnt f n + b2 (f n) + _
    rw [cnt_upd h n]
    by_cases e : n = t
    · subst e
      rw [if_neg (Nat.lt_irrefl _), if_pos (Nat.lt_succ_self _)]
      omega
    · rw [h n (by omega)]
      by_cases l : t < n
      · rw [if_pos l, if_pos (by omega)]
        omega
      · rw [if_neg l, if_neg (by omega)]
        omega
theorem wAhead_cnt (c : List Bool) (hL : 0 < c.length) (n : Nat) : ∀ {ch : Chs} {lo : Int}, -1 ≤ lo → Asc lo ch → wAhead c ch (n : Int) = cnt (works c ch) n
  | [], _, _, _ => by
    unfold wAhead gains
    show ahead c n + 0 = _
    rw [Int.add_zero, ahead_cnt c hL]
    exact cnt_ext fun k _ => rfl
  | q :: r, lo, hlo, h => by
    have ih := wAhead_cnt c hL n (ch := r) (lo := q.1) (by have := h.1; omega) h.2
    have hq : 0 ≤ q.1 := by
      have := h.1
      omega
    have eq : ((q.1.toNat : Nat) : Int) = q.1 := Int.toNat_of_nonneg hq
    have u := cnt_upd (f := works c r) (g := works c (q :: r)) (t := q.1.toNat) (fun s hs => by
      show (if q.1 = s then q.2 else works c r s) = _
      rw [if_neg (by omega)]) n
    rw [eq] at u
    have w1 : works c (q :: r) q.1 = q.2 := if_pos rfl
    have w2 : works c r q.1 = byC c q.1 := works_not c fun p hp => by
      have := Asc.lt h.2 p hp
      omega
    rw [w1, w2] at u
    rw [u, ← ih]
    unfold wAhead gains
    rw [List.filter_cons]
    by_cases l : q.1 < (n : Int)
    · rw [if_pos (decide_eq_true l), if_pos (by omega), List.map_cons, List.sum_cons]
      unfold gain
      omega
    · rw [if_neg (by rw [decide_eq_true_eq]; exact l), if_neg (by omega)]
      omega
/-! ### the slot with so many ahead of it -/
def slotB (c : List Bool) : Chs → Int → Int → Int
  | [], g, a => slotC c (a - g)
  | q :: r, g, a => if ahead c q.1 + g > a then slotC c (a - g) else if ahead c q.1 + g = a ∧ q.2 = true then q.1 else slotB c r (g + gain c q.1 q.2) a
theorem asc_app : ∀ {pre r : Chs} {q : Int × Bool} {lo : Int}, Asc lo (pre ++ q :: r) → (∀ p ∈ pre, p.1 < q.1) ∧ (∀ p ∈ r, q.1 < p.1) ∧ lo < q.1
  | [], r, q, lo, h => ⟨fun p hp => by (cases hp), fun p hp => Asc.lt h.2 p hp, h.1⟩
  | a :: pre, r, q, lo, h => by
    obtain ⟨h1, h2, h3⟩ := asc_app (pre := pre) h.2
    refine ⟨fun p hp => ?_, h2, ?_⟩
    · rcases List.mem_cons.mp hp with e | m
      · subst e
        exact h3
      · exact h1 p m
    · have := h.1
      omega
theorem works_at (c : List Bool) {q : Int × Bool} : ∀ {pre r : Chs}, (∀ p ∈ pre, p.1 < q.1) → works c (pre ++ q :: r) q.1 = q.2
  | [], r, _ => if_pos rfl
  | a :: pre, r, h => by
    show (if a.1 = q.1 then a.2 else works c (pre ++ q :: r) q.1) = q.2
    have := h a List.mem_cons_self
    rw [if_neg (by omega)]
    exact works_at c fun p hp => h p (List.mem_cons_of_mem _ hp)
theorem filter_pre {pre r : Chs} {s : Int} (h1 : ∀ p ∈ pre, p.1 < s) (h2 : ∀ p ∈ r, s ≤ p.1) : ((pre ++ r).filter fun p => decide (p.1 < s)) = pre := by
  rw [List.filter_append, List.filter_eq_self.mpr fun p hp => decide_eq_true (h1 p hp), List.filter_eq_nil_iff.mpr fun p hp => by
    rw [decide_eq_true_eq]
    have := h2 p hp
    omega, List.append_nil]
theorem ahead_lt (c : List Bool) (hL : 0 < c.length) {x y : Int} (hx : 0 ≤ x) (hy : 0 ≤ y) (h : ahead c x < ahead c y) : x < y := by
  rcases Int.lt_or_le x y with l | l
  · exact l
  · exfalso
    have e1 : ((x.toNat : Nat) : Int) = x := Int.toNat_of_nonneg hx
    have e2 : ((y.toNat : Nat) : Int) = y := Int.toNat_of_nonneg hy
    have := cnt_le (byC c) (show y.toNat ≤ x.toNat by omega)
    rw [← ahead_cnt c hL, ← ahead_cnt c hL, e1, e2] at this
    omega
/-- behind x the cycle has counted y: so y comes behind x -/
theorem ahead_behind (c : List Bool) (hL : 0 < c.length) {x y : Int} (hx : 0 ≤ x) (hy : 0 ≤ y) (w : byC c y = true) (h : ahead c (x + 1) ≤ ahead c y) : x < y := by
  rcases Int.lt_or_le x y with l | l
  · exact l
  · exfalso
    have e1 : (((x + 1).toNat : Nat) : Int) = x + 1 := Int.toNat_of_nonneg (by omega)
    have e2 : ((y.toNat : Nat) : Int) = y := Int.toNat_of_nonneg hy
    have := cnt_lt (byC c) (show y.toNat < (x + 1).toNat by omega) (by rw [e2]; exact w)
    rw [← ahead_cnt c hL, ← ahead_cnt c hL, e1, e2] at this
    omega
theorem slotB_ok (c : List Bool) (hL : 0 < c.length) (hP : 0 < (places c).length) (a : Int) : ∀ (r pre : Chs), Asc (-1) (pre ++ r) → 0 ≤ a - gains c pre → (∀ p ∈ pre, ahead c (p.1 + 1) ≤ a - gains c pre) →
    0 ≤ slotB c r (gains c pre) a ∧ works c (pre ++ r) (slotB c r (gains c pre) a) = true ∧ wAhead c (pre ++ r) (slotB c r (gains c pre) a) = a
  | [], pre, h, h0, hp => by
    show 0 ≤ slotC c (a - gains c pre) ∧ works c (pre ++ []) (slotC c (a - gains c pre)) = true ∧ wAhead c (pre ++ []) (slotC c (a - gains c pre)) = a
    obtain ⟨s0, s1, s2⟩ := slotC_ok c hP h0
    generalize slotC c (a - gains c pre) = y at s0 s1 s2 ⊢
    have lt : ∀ p ∈ pre, p.1 < y := fun p m => by
      have p0 : -1 < p.1 := Asc.lt h p (List.mem_append_left _ m)
      have := hp p m
      exact ahead_behind c hL (by omega) s0 s1 (by omega)
    refine ⟨s0, ?_, ?_⟩
    · rw [works_not c]
      · exact s1
      · intro p m
        rw [List.append_nil] at m
        have := lt p m
        omega
    · unfold wAhead
      rw [filter_pre lt (fun p m => by cases m)]
      omega
  | q :: r, pre, h, h0, hp => by
    obtain ⟨a1, a2, a3⟩ := asc_app h
    have q0 : 0 ≤ q.1 := by omega
    unfold slotB
    by_cases g1 : ahead c q.1 + gains c pre > a
    · rw [if_pos g1]
      obtain ⟨s0, s1, s2⟩ := slotC_ok c hP h0
      generalize slotC c (a - gains c pre) = y at s0 s1 s2 ⊢
      have lt : ∀ p ∈ pre, p.1 < y := fun p m => by
        have p0 : -1 < p.1 := Asc.lt h p (List.mem_append_left _ m)
        have := hp p m
        exact ahead_behind c hL (by omega) s0 s1 (by omega)
      have yq : y < q.1 := ahead_lt c hL s0 q0 (by omega)
      refine ⟨s0, ?_, ?_⟩
      · rw [works_not c]
        · exact s1
        · intro p m
          rcases List.mem_append.mp m with m | m
          · have := lt p m
            omega
          · rcases List.mem_cons.mp m with e | m
            · rw [e]
              omega
            · have := a2 p m
              omega
      · unfold wAhead
        rw [filter_pre lt fun p m => by
          rcases List.mem_cons.mp m with e | m
          · rw [e]
            omega
          · have := a2 p m
            omega]
        omega
    · rw [if_neg g1]
      by_cases g2 : ahead c q.1 + gains c pre = a ∧ q.2 = true
      · rw [if_pos g2]
        refine ⟨q0, ?_, ?_⟩
        · rw [works_at c a1]
          exact g2.2
        · unfold wAhead
          rw [filter_pre a1 fun p m => by
            rcases List.mem_cons.mp m with e | m
            · rw [e]
              omega
            · have := a2 p m
              omega]
          exact g2.1
      · rw [if_neg g2]
        have eg : gains c (pre ++ [q]) = gains c pre + gain c q.1 q.2 := by
          unfold gains
          rw [List.map_append, List.sum_append]
          simp
        have hs : ahead c (q.1 + 1) = ahead c q.1 + b2 (byC c q.1) := by
          have := ahead_succ c hL q.1.toNat
          have e1 : ((q.1.toNat : Nat) : Int) = q.1 := Int.toNat_of_nonneg q0
          rw [Int.natCast_add, e1] at this
          exact this
        have key : ahead c (q.1 + 1) ≤ a - gains c (pre ++ [q]) := by
          rw [eg, hs]
          unfold gain
          cases w : q.2 with
          | false =>
            have : b2 false = 0 := rfl
            omega
          | true =>
            have : b2 true = 1 := rfl
            have : ¬ ahead c q.1 + gains c pre = a := fun z => g2 ⟨z, w⟩
            omega
        have q1 : 0 ≤ ahead c (q.1 + 1) := by
          have := cnt_0 (byC c) (q.1 + 1).toNat
          rw [← ahead_cnt c hL, Int.toNat_of_nonneg (by omega)] at this
          exact this
        have ih := slotB_ok c hL hP a r (pre ++ [q]) (by rw [List.append_assoc]; exact h) (by omega) fun p m => by
          rcases List.mem_append.mp m with m | m
          · have lt := a1 p m
            have p0 : -1 < p.1 := Asc.lt h p (List.mem_append_left _ m)
            have := cnt_le (byC c) (show (p.1 + 1).toNat ≤ (q.1 + 1).toNat by omega)
            rw [← ahead_cnt c hL, ← ahead_cnt c hL, Int.toNat_of_nonneg (by omega), Int.toNat_of_nonneg (by omega)] at this
            omega
          · rw [List.mem_singleton.mp m]
            exact key
        rw [eg, List.append_assoc] at ih
        exact ih
/-- the whole: what it tells works, with just so many ahead of it -/
theorem slotB_cnt (c : List Bool) (hc : true ∈ c) {ch : Chs} (h : Asc (-1) ch) {a : Int} (ha : 0 ≤ a) : ∃ n : Nat, slotB c ch 0 a = (n : Int) ∧ works c ch (n : Int) = true ∧ cnt (works c ch) n = a := by
  have hL : 0 < c.length := List.length_pos_of_mem hc
  obtain ⟨h0, h1, h2⟩ := slotB_ok c hL (places_pos hc) a ch [] h (by show 0 ≤ a - 0; omega) fun p m => by cases m
  have e : slotB c ch (gains c []) a = slotB c ch 0 a := rfl
  rw [e] at h0 h1 h2
  refine ⟨(slotB c ch 0 a).toNat, (Int.toNat_of_nonneg h0).symm, ?_, ?_⟩
  · rw [Int.toNat_of_nonneg h0]
    exact h1
  · rw [← wAhead_cnt c hL _ (lo := -1) (by decide) h, Int.toNat_of_nonneg h0]
    exact h2
end Cal


set_option Elab.async false
set_option autoImplicit false
set_option linter.all false
set_option maxRecDepth 100000
set_option maxHeartbeats 4000000
namespace Ca
open PySem PySem.Spec PyProof.Rows L2 Cmb Ly Cal
def top (i : Nat) : Stmt := PySem.Challenge.pw_crewlags_k60_whole_calendars_that_never.main.body.getD i (.Pass ⟨0, 0, 0, 0⟩)
abbrev FnP (K : PySem.W.Frag) (x : Str) (st : Stmt) (f : Addr) (fd : FuncData) : Prop := FunD K x x (defArgs st) (defBody st) (defScope st) [] [] f fd
structure Txt (K : PySem.W.Frag) (mg : Str → Option Value) (C : Addr) : Prop where
  isinstance : mg "isinstance" = none
  len : mg "len" = none
  range : mg "range" = none
  enumerate : mg "enumerate" = none
  int : mg "int" = none
  list : mg "list" = none
  tuple : mg "tuple" = none
  any : mg "any" = none
  sum : mg "sum" = none
  bool : mg "bool" = none
  longest : ∃ t, mg "LONGEST_CYCLE" = some (.int 14 t)
  most : ∃ t, mg "MOST_CHANGES" = some (.int 10 t)
  Calendar : mg "Calendar" = some (.ref C)
  cl : Cls K C
  nCy : NoAttr K C "cycle"
  nCh : NoAttr K C "changes"
  ty : ∀ (H : Hp) (a dx : Addr) (fs : List (Str × V)), H a = some (.ins C dx fs) → TyX K H (.ref a) (.ref C)
  kit : PySem.W.kitOne K (.ref C) (.ref C) = some true
/-- a def of the text that keeps a promise, by its name -/
structure Dn (P : Program) (w : World) (K : PySem.W.Frag) (mg : Str → Option Value) (base : Heap) (k : Nat) (x : Str) (ps : List Str) (sp : Sp) : Prop where
  ex : ∃ (f : Addr) (fd : FuncData), FnOk P w K mg base CX0 k f fd ps sp ∧ mg x = some (.ref f) ∧ PySem.W.keepIn K (.ref f) = true ∧ Binds K fd ps []
theorem pe_d {X : Cx} {k : Nat} {x : Str} {ps : List Str} {sp : Sp} {e : Expr} {es : List Expr} {t : TA} {p pos : Pos} (D : Dn X.prog X.w X.K X.mg X.base k x ps sp) (hr : Room k X.A) (ha : PA X (e :: es) t) (hg : Gl X x := by rfl) (hx : (x == ("__debug__" : Str)) = false := by decide)
    (hs : starEach (e :: es) X.env = (false, eval e X.env) :: starEach es X.env := by rfl) (hp : (backTo pos (starEach es X.env)).any (·.1) = false := by rfl) : PE X (.Call (.Name x p) (e :: es) [] pos) (tCall sp [] E0 t) := by
  obtain ⟨f, fd, G, hm, hk, b⟩ := D.ex
  exact pe_call G hr hg hm hk b .nil pass0 ha hx hs hp
theorem dn_mk {P : Program} {w : World} {K : PySem.W.Frag} {mg : Str → Option Value} {base : Heap} {k : Nat} {x : Str} {st : Stmt} {ps : List Str} {sp : Sp} {f : Addr} {fd : FuncData} (F : FnP K x st f fd) (g : mg x = some (.ref f))
    (b : ∀ (kV doc pm : Value) (an : Option Addr) (cdv ct : Value) (us : List Value), us.length = ps.length → bindArgs (PySem.W.fnOf x x (defArgs st) (defBody st) (defScope st) .none kV doc pm an cdv ct) ⟨us, []⟩ = pure (ps.zip us))
    (ok : FnOk P w K mg base CX0 k f fd ps sp) : Dn P w K mg base k x ps sp := ⟨f, fd, ok, g, F.kp, FunD.bindsN F b⟩
theorem pe_bty {X : Cx} {x : Str} {T : String} {pos : Pos} (hg : Gl X x) (hm : X.mg x = none) (hv : bootBuiltins x = some (.type T)) (hn : x ≠ "__name__" := by decide) (hd : (x == ("__debug__" : Str)) = false := by decide) : PE X (.Name x pos) (tC (.ty T)) :=
  ⟨fun _ _ _ H _ I h => ld_blt I hg hm hv ⟨.ty T, H, I, rfl, h⟩ hn hd⟩
theorem pip_add {X : Cx} : PIp X .Add (rI0 fun i j => .int (i + j)) := fun pins s σ H x y v u Q I r1 r2 h => iop_add pins s σ H x y v u Q I r1 r2 h
/-! ### the data -/
def cycD (c : List Bool) : Da := .tup (c.map .bl)
def chD (q : Int × Bool) : Da := .tup [.int q.1, .bl q.2]
def chsD (ch : Chs) : Da := .tup (ch.map chD)
def calD (C : Addr) (c : List Bool) (ch : Chs) : Da := .ob C [("cycle", cycD c), ("changes", chsD ch)]
/-! ### rules that lacked -/
theorem getD_at {α : Type} {l : List α} {k : Nat} {d : α} (h : k < l.length) : l[k]? = some (l.getD k d) := by
  rw [List.getD_eq_getElem?_getD, List.getElem?_eq_getElem h]
  rfl
theorem nth_map {α : Type} {f : α → Da} {l : List α} {k : Nat} (d : α) (h : k < l.length) : nth (l.map f) k = f (l.getD k d) := nth_at (by rw [List.getElem?_map, getD_at (d := d) h]; rfl)
theorem range_filter {α β : Type} (l : List α) (d : α) (b : α → Bool) (g : α → β) : ((List.range l.length).filter fun k => b (l.getD k d)).map (fun k => g (l.getD k d)) = (l.filter b).map g := by
  have e : l = (List.range l.length).map fun k => l.getD k d := by
    refine List.ext_getElem? fun i => ?_
    by_cases h : i < l.length
    · rw [List.getElem?_map, List.getElem?_range h, Option.map_some, ← getD_at h]
    · rw [List.getElem?_eq_none (by omega), List.getElem?_eq_none (by rw [List.length_map, List.length_range]; omega)]
  conv => rhs; rw [e]
  rw [List.filter_map, List.map_map]
  rfl
section
variable {c : Ly.Ctx} {ρ : List Cell} {n : Nat} {te ta tb tc : TE} {tr : TA} {d : Da} {ds : List Da}
/-- lo <= x <= hi -/
theorem d_within {i j k : Int} (ha : EvD c ta ρ (.int i)) (hb : EvD c tb ρ (.int j)) (hk : EvD c tc ρ (.int k)) : EvD c (tChain (rI0 fun i j => .bl (decide (i ≤ j))) (rI0 fun i j => .bl (decide (i ≤ j))) ta tb tc) ρ (.bl (decide (i ≤ j) && decide (j ≤ k))) := fun B H σ n G Q q =>
  ha B H σ n G _ fun v B1 H1 s1 j1 r1 => hb B1 H1 σ n (G.step s1 j1) _ fun w B2 H2 s2 j2 r2 => by
    cases r1
    cases r2
    have s12 := s1.trans (jnF j1) s2
    refine ⟨i, j, rfl, rfl, decide (i ≤ j), rfl, ?_⟩
    by_cases h : i ≤ j
    · rw [if_pos (decide_eq_true h)]
      refine hk B2 H2 σ n (G.step s12 j2) _ fun u B3 H3 s3 j3 r3 => ?_
      cases r3
      refine ⟨j, k, rfl, rfl, q _ B3 H3 (s12.trans (jnF j2) s3) j3 ?_⟩
      rw [decide_eq_true h, Bool.true_and]
      exact .bl _
    · rw [if_neg (by rw [decide_eq_false h]; decide)]
      refine q _ B2 H2 s12 j2 ?_
      rw [decide_eq_false h, Bool.false_and]
      exact .bl _
/-- len of a list or of a tuple -/
theorem cd_lenI (hd : d.its = some ds) : CaD c (fun xs H Q => ∃ p ys, xs = [.ref p] ∧ (SqL c.K H p ys ∨ SqT c.K H p ys) ∧ Q (.int ys.length) H) [d] (.int (ds.length : Int)) := fun B H vs n bh jn r Q q => by
  cases r with
  | cons h t =>
    cases t
    obtain ⟨a, xs, rfl, hs, hr⟩ := h.sq bh hd
    refine ⟨_, _, rfl, hs, ?_⟩
    rw [hr.len]
    exact q _ B H (Step.refl bh) jn (.int _)
theorem d_len (h : EvD c te ρ d) (hd : d.its = some ds) : EvD c (tCB (fun xs H Q => ∃ p ys, xs = [.ref p] ∧ (SqL c.K H p ys ∨ SqT c.K H p ys) ∧ Q (.int ys.length) H) (tCons te tNil)) ρ (.int (ds.length : Int)) := d_cb (a_cons h a_nil) (cd_lenI hd)
theorem d_lenM {α : Type} {f : α → Da} {l : List α} (h : EvD c te ρ d) (hd : d.its = some (l.map f)) : EvD c (tCB (fun xs H Q => ∃ p ys, xs = [.ref p] ∧ (SqL c.K H p ys ∨ SqT c.K H p ys) ∧ Q (.int ys.length) H) (tCons te tNil)) ρ (.int (l.length : Int)) := (d_len h hd).eq (by rw [List.length_map])
theorem its_ty {d : Da} {ds : List Da} (h : d.its = some ds) : ∃ t, d.tyn = some t := by
  cases d with
  | lst l => exact ⟨_, rfl⟩
  | tup l => exact ⟨_, rfl⟩
  | non => cases h
  | bl b => cases h
  | int i => cases h
  | str s => cases h
  | ob C fs => cases h
theorem atI_map {α : Type} {f : α → Da} {l : List α} {i : Int} (x : α) (h0 : 0 ≤ i) (h1 : i < (l.length : Int)) : atI (l.map f) i = some (f (l.getD i.toNat x)) := by
  have e := atI_nat (xs := l.map f) (j := i.toNat) (v := f (l.getD i.toNat x)) (by rw [List.getElem?_map, getD_at (d := x) (by omega)]; rfl)
  rwa [Int.toNat_of_nonneg h0] at e
/-- isinstance(x, C), x an object of C -/
theorem d_isO {C : Addr} {fs : List (Str × Da)} {mg : Str → Option Value} (T : Txt c.K mg C) (h : EvD c te ρ (.ob C fs)) : EvD c (tCB (rIsi c.K) (tCons te (tCons (tC (.ref C)) tNil))) ρ (.bl true) := fun B H σ n G Q q =>
  h B H σ n G _ fun v B1 H1 s j r => by
    cases r with
    | ob hb hr => exact ⟨_, .ref C, .ref C, .ref C, true, rfl, .own C, T.ty _ _ _ _ (s.bh _ _ hb), T.kit, q _ B1 H1 s j (.bl true)⟩
theorem d_eqI {i j : Int} (ha : EvD c ta ρ (.int i)) (hb : EvD c tb ρ (.int j)) : EvD c (tOp rEq ta tb) ρ (.bl (decide (i = j))) := (d_eqS ha hb rfl rfl rfl).eq (by
  congr 1
  exact decide_eq_decide.mpr ⟨fun z => by cases z; rfl, fun z => by rw [z]⟩)
theorem d_neI {i j : Int} (ha : EvD c ta ρ (.int i)) (hb : EvD c tb ρ (.int j)) : EvD c (tOp rNe ta tb) ρ (.bl (!decide (i = j))) := (d_neS ha hb rfl rfl rfl).eq (by
  congr 2
  exact decide_eq_decide.mpr ⟨fun z => by cases z; rfl, fun z => by rw [z]⟩)
theorem look2 {x y : Da} : List.lookup ("changes" : Str) [(("cycle" : Str), x), (("changes" : Str), y)] = some y := by
  have e : (("changes" : Str) == "cycle") = false := by decide +kernel
  have e2 : (("changes" : Str) == "changes") = true := by decide +kernel
  show (match (("changes" : Str) == "cycle") with | true => some x | false => match (("changes" : Str) == "changes") with | true => some y | false => none) = some y
  rw [e, e2]
theorem d_cyc {C : Addr} {mg : Str → Option Value} {cy : List Bool} {ch : Chs} (T : Txt c.K mg C) (h : EvD c te ρ (calD C cy ch)) : EvD c (tFld c.K te "cycle") ρ (cycD cy) := d_fld h T.cl T.nCy rfl
theorem d_chs {C : Addr} {mg : Str → Option Value} {cy : List Bool} {ch : Chs} (T : Txt c.K mg C) (h : EvD c te ρ (calD C cy ch)) : EvD c (tFld c.K te "changes") ρ (chsD ch) := d_fld h T.cl T.nCh look2
end

end Ca


set_option Elab.async false
set_option autoImplicit false
set_option linter.all false
set_option maxRecDepth 100000
set_option maxHeartbeats 4000000
namespace Ca
open PySem PySem.Spec PyProof.Rows L2 Cmb Ly Cal
/-! ### == of cycles and changes -/
section
theorem pys_map {α : Type} {f : α → Da} {g : α → PyData} (h : ∀ a, (f a).py = some (g a)) : ∀ l : List α, Da.pys (l.map f) = some (l.map g)
  | [] => by
    show Da.pys [] = some []
    unfold Da.pys
    rfl
  | a :: l => by
    show Da.pys (f a :: l.map f) = some (g a :: l.map g)
    unfold Da.pys
    rw [h a, pys_map h l]
    rfl
theorem tup_py {α : Type} {f : α → Da} {g : α → PyData} (h : ∀ a, (f a).py = some (g a)) (l : List α) : (Da.tup (l.map f)).py = some (.tuple (l.map g)) := by
  unfold Da.py
  rw [pys_map h l]
  rfl
theorem lst_py {α : Type} {f : α → Da} {g : α → PyData} (h : ∀ a, (f a).py = some (g a)) (l : List α) : (Da.lst (l.map f)).py = some (.list (l.map g)) := by
  unfold Da.py
  rw [pys_map h l]
  rfl
theorem lay_map {α : Type} {g : α → PyData} (h : ∀ a, (g a).canLay0 = true) : ∀ l : List α, PyData.canLayAll0 (l.map g) = true
  | [] => by
    show PyData.canLayAll0 [] = true
    unfold PyData.canLayAll0
    rfl
  | a :: l => by
    show PyData.canLayAll0 (g a :: l.map g) = true
    unfold PyData.canLayAll0
    rw [h a, lay_map h l]
    rfl
theorem depth_map {α : Type} {g : α → PyData} {k : Nat} (h : ∀ a, (g a).depth ≤ k) : ∀ l : List α, PyData.depthAll (l.map g) ≤ k
  | [] => by
    show PyData.depthAll [] ≤ k
    unfold PyData.depthAll
    exact Nat.zero_le _
  | a :: l => by
    show PyData.depthAll (g a :: l.map g) ≤ k
    unfold PyData.depthAll
    exact Nat.max_le.mpr ⟨h a, depth_map h l⟩
theorem shaped_tup {α : Type} {g : α → PyData} (h1 : ∀ a, (g a).canLay0 = true) (h2 : ∀ a, (g a).depth ≤ 60) (l : List α) : SeqAt.shaped (.tuple (l.map g)) = true := by
  have e1 : (PyData.tuple (l.map g)).canLay0 = true := by
    unfold PyData.canLay0
    exact lay_map h1 l
  have e2 : (PyData.tuple (l.map g)).depth ≤ 64 := by
    unfold PyData.depth
    have := depth_map h2 l
    omega
  show ((PyData.tuple (l.map g)).canLay0 && decide ((PyData.tuple (l.map g)).depth ≤ 64)) = true
  rw [e1, decide_eq_true e2]
  rfl
def cycP (c : List Bool) : PyData := .tuple (c.map .bool)
def chP (q : Int × Bool) : PyData := .tuple [.int q.1, .bool q.2]
def chsP (ch : Chs) : PyData := .tuple (ch.map chP)
theorem bl_py (b : Bool) : (Da.bl b).py = some (.bool b) := by
  unfold Da.py
  rfl
theorem cyc_py (c : List Bool) : (cycD c).py = some (cycP c) := tup_py bl_py c
theorem ch_py (q : Int × Bool) : (chD q).py = some (chP q) := by
  unfold chD chP
  simp [Da.py, Da.pys]
theorem chs_py (ch : Chs) : (chsD ch).py = some (chsP ch) := tup_py ch_py ch
theorem shaped_cyc (c : List Bool) : SeqAt.shaped (cycP c) = true := shaped_tup (fun b => by unfold PyData.canLay0; rfl) (fun b => by unfold PyData.depth; decide) c
theorem ch_lay (q : Int × Bool) : (chP q).canLay0 = true := by
  unfold chP
  simp [PyData.canLay0, PyData.canLayAll0]
theorem ch_depth (q : Int × Bool) : (chP q).depth ≤ 60 := by
  unfold chP
  simp [PyData.depth, PyData.depthAll]
theorem shaped_chs (ch : Chs) : SeqAt.shaped (chsP ch) = true := shaped_tup ch_lay ch_depth ch
theorem nil_py : (Da.tup []).py = some (.tuple []) := by
  simp [Da.py, Da.pys]
theorem shaped_nil : SeqAt.shaped (.tuple []) = true := shaped_tup (α := Bool) (g := .bool) (fun b => by unfold PyData.canLay0; rfl) (fun b => by unfold PyData.depth; decide) []
theorem chs_nil (ch : Chs) : PyData.eqv (chsP ch) (.tuple []) = ch.isEmpty := by
  cases ch with
  | nil => simp [chsP, PyData.eqv, PyData.eqvAll]
  | cons q r => simp [chsP, PyData.eqv, PyData.eqvAll]
theorem d_someCh {c : Ly.Ctx} {ρ : List Cell} {te : TE} {ch : Chs} (h : EvD c te ρ (chsD ch)) : EvD c (tOp (rNeD c.K) te (tTup tNil)) ρ (.bl (!ch.isEmpty)) := (d_neD h (d_tup a_nil (Nat.zero_le _)) (chs_py ch) nil_py (shaped_chs ch) shaped_nil).eq (by rw [chs_nil])
end

end Ca


set_option Elab.async false
set_option autoImplicit false
set_option linter.all false
set_option maxRecDepth 100000
set_option maxHeartbeats 4000000
namespace Ca
open PySem PySem.Spec PyProof.Rows L2 Cmb Ly Cal
section
variable {P : Program} {w : World} {K : PySem.W.Frag} {mg : Str → Option Value} {base : Heap} {f : Addr} {fd : FuncData} {C : Addr}
/-! ### is_whole, is_row -/
def isInt : Da → Bool
  | .int _ => true
  | _ => false
theorem kit_int {d : Da} {t : String} (h : d.tyn = some t) : ∃ a b, kitB t "int" = some a ∧ kitB t "bool" = some b ∧ (a && !b) = isInt d := by
  cases d with
  | non => cases h; exact ⟨false, false, by decide +kernel, by decide +kernel, rfl⟩
  | bl x => cases h; exact ⟨true, true, by decide +kernel, by decide +kernel, rfl⟩
  | int i => cases h; exact ⟨true, false, by decide +kernel, by decide +kernel, rfl⟩
  | str s => cases h; exact ⟨false, false, by decide +kernel, by decide +kernel, rfl⟩
  | lst l => cases h; exact ⟨false, false, by decide +kernel, by decide +kernel, rfl⟩
  | tup l => cases h; exact ⟨false, false, by decide +kernel, by decide +kernel, rfl⟩
  | ob C fs => cases h
def SWhole : List Da → Da → Prop := fun ds e => ∃ (d : Da) (t : String), ds = [d] ∧ d.tyn = some t ∧ e = .bl (isInt d)
theorem sc_is_whole : FnScope ["value"] ["value"] (defScope (top 6)) := ⟨rfl, rfl, rfl, by decide +kernel, rfl, by decide +kernel, by decide +kernel⟩
theorem ok_is_whole (F : FnP K "is_whole" (top 6) f fd) (T : Txt K mg C) : FnOk P w K mg base CX0 1 f fd ["value"] (spR K SWhole) := by
  refine F.ok sc_is_whole (fun vs H Q E h => ?_) (fun cdv A outer s H vs Q E hr h => ⟨_, PSs.nox (pss_one (ps_ret (pe_and (pe_callB call_isi (by rfl) T.isinstance (by decide +kernel) (pa_cons (pv 0) (pa_cons (pe_bty (T := "int") (by rfl) T.int (by decide +kernel)) pa_nil))) (pe_one (pe_not (pe_callB call_isi (by rfl) T.isinstance (by decide +kernel) (pa_cons (pv 0) (pa_cons (pe_bty (T := "bool") (by rfl) T.bool (by decide +kernel)) pa_nil)))))))), ?_⟩)
  · obtain ⟨B, ds, e, _, rv, ⟨d, t, rfl, _⟩, _⟩ := h
    exact rv.len
  · refine run_R h (fun ds e ⟨d, t, e1, _⟩ => by rw [e1]; show 1 ≤ 1; decide) fun B0 H0 ds e ⟨d, t, e1, ht, e2⟩ => ?_
    subst e1
    subst e2
    obtain ⟨a, b, k1, k2, e⟩ := kit_int ht
    exact s_ret ((d_and (d_isi (d_var rfl) ht k1) fun _ => d_not (d_isi (d_var rfl) ht k2)).eq (by rw [e])) rfl
def isRow : Da → Bool
  | .lst _ => true
  | .tup _ => true
  | _ => false
theorem its_row {d : Da} {ds : List Da} (h : d.its = some ds) : isRow d = true := by
  cases d with
  | lst l => rfl
  | tup l => rfl
  | non => cases h
  | bl b => cases h
  | int i => cases h
  | str s => cases h
  | ob C fs => cases h
theorem kit_row {K : PySem.W.Frag} {d : Da} {t : String} (h : d.tyn = some t) : PySem.W.kitAny K (.type t) [.type "list", .type "tuple"] = some (isRow d) := by
  have any2 : ∀ {a b : Bool}, kitB t "list" = some a → kitB t "tuple" = some b → PySem.W.kitAny K (.type t) [.type "list", .type "tuple"] = some (a || b) := fun {a b} h1 h2 => by
    refine kitAny_cons (b := a) (kit_ty h1) (fun z => ?_) fun z => by rw [z]; rfl
    rw [z, Bool.false_or]
    exact kitAny_cons (b := b) (kit_ty h2) (fun y => by rw [y]; rfl) fun y => y
  cases d with
  | non => cases h; exact any2 (a := false) (b := false) (by decide +kernel) (by decide +kernel)
  | bl x => cases h; exact any2 (a := false) (b := false) (by decide +kernel) (by decide +kernel)
  | int i => cases h; exact any2 (a := false) (b := false) (by decide +kernel) (by decide +kernel)
  | str s => cases h; exact any2 (a := false) (b := false) (by decide +kernel) (by decide +kernel)
  | lst l => cases h; exact any2 (a := true) (b := false) (by decide +kernel) (by decide +kernel)
  | tup l => cases h; exact any2 (a := false) (b := true) (by decide +kernel) (by decide +kernel)
  | ob C fs => cases h
def SRow : List Da → Da → Prop := fun ds e => ∃ (d : Da) (t : String), ds = [d] ∧ d.tyn = some t ∧ e = .bl (isRow d)
theorem sc_is_row : FnScope ["value"] ["value"] (defScope (top 8)) := ⟨rfl, rfl, rfl, by decide +kernel, rfl, by decide +kernel, by decide +kernel⟩
theorem ok_is_row (F : FnP K "is_row" (top 8) f fd) (T : Txt K mg C) : FnOk P w K mg base CX0 1 f fd ["value"] (spR K SRow) := by
  refine F.ok sc_is_row (fun vs H Q E h => ?_) (fun cdv A outer s H vs Q E hr h => ⟨_, PSs.nox (pss_one (ps_ret (pe_callB call_isiT (by rfl) T.isinstance (by decide +kernel) (pa_cons (pv 0) (pa_cons (pe_tup (pa_cons (pe_bty (T := "list") (by rfl) T.list (by decide +kernel)) (pa_cons (pe_bty (T := "tuple") (by rfl) T.tuple (by decide +kernel)) pa_nil))) pa_nil))))), ?_⟩)
  · obtain ⟨B, ds, e, _, rv, ⟨d, t, rfl, _⟩, _⟩ := h
    exact rv.len
  · refine run_R h (fun ds e ⟨d, t, e1, _⟩ => by rw [e1]; show 1 ≤ 1; decide) fun B0 H0 ds e ⟨d, t, e1, ht, e2⟩ => ?_
    subst e1
    subst e2
    exact s_ret (d_isi2 (d_var rfl) ht (kit_row ht)) rfl
theorem d_row {c : Ly.Ctx} {ρ : List Cell} {te : TE} {d : Da} {ds : List Da} (h : EvD c te ρ d) (hd : d.its = some ds) : EvD c (tCall (spR c.K SRow) [] E0 (tCons te tNil)) ρ (.bl true) := by
  obtain ⟨t, ht⟩ := its_ty hd
  exact d_call (a_cons h a_nil) ⟨d, t, rfl, ht, by rw [its_row hd]⟩
theorem d_whole {c : Ly.Ctx} {ρ : List Cell} {te : TE} {i : Int} (h : EvD c te ρ (.int i)) : EvD c (tCall (spR c.K SWhole) [] E0 (tCons te tNil)) ρ (.bl true) := d_call (a_cons h a_nil) ⟨.int i, "int", rfl, rfl, rfl⟩
/-! ### cycle_fault -/
def SCf : List Da → Da → Prop := fun ds e => ∃ (d : Da) (c : List Bool), ds = [d] ∧ d.its = some (c.map .bl) ∧ 1 ≤ c.length ∧ c.length ≤ 14 ∧ true ∈ c ∧ e = .non
theorem sc_cycle_fault : FnScope ["cycle", "at", "works"] ["cycle"] (defScope (top 15)) := ⟨rfl, rfl, rfl, by decide +kernel, rfl, by decide +kernel, by decide +kernel⟩
theorem ok_cycle_fault (F : FnP K "cycle_fault" (top 15) f fd) (T : Txt K mg C) (D_is_row : Dn P w K mg base 1 "is_row" ["value"] (spR K SRow)) : FnOk P w K mg base CX0 2 f fd ["cycle"] (spR K SCf) := by
  have nd := sc_cycle_fault.nd
  obtain ⟨t1, g1⟩ := T.longest
  refine F.ok sc_cycle_fault (fun vs H Q E h => ?_) (fun cdv A outer s H vs Q E hr h => ?_)
  · obtain ⟨B, ds, e, _, rv, ⟨d, c, rfl, _⟩, _⟩ := h
    exact rv.len
  · refine ⟨_, PSs.nox (pss_cons (ps_if (PW.pt (pw_or (pt_not (pt_val (pe_d D_is_row (hr.mono (by decide)) (pa_cons (pv 0) pa_nil)))) (pw_or1 (pt_not (pt_chain op_le op_le pe_int (pe_callB call_len_seq (by rfl) T.len PySem.boot_len (pa_cons (pv 0) pa_nil)) (pe_glob (v := .int 14) (by rfl) g1 ⟨_, rfl⟩)))))) (pss_one (ps_ret (pe_un un_neg pe_int))) pss_nil)
      (pss_cons (ps_for PassesOwn.never rfl (pi_enumS (by rfl) T.enumerate (pa_cons (pv 0) pa_nil)) (pg_tup rfl (pgs_cons (pg_name (i := 1) nd rfl (Or.inl rfl)) (pgs_cons (pg_name (i := 2) nd rfl (Or.inl rfl)) pgs_nil))) (pss_one (ps_if (pt_not (pt_val (pe_callB call_isi (by rfl) T.isinstance (by decide +kernel) (pa_cons (pv 2) (pa_cons (pe_bty (T := "bool") (by rfl) T.bool (by decide +kernel)) pa_nil))))) (pss_one (ps_ret (pv 1))) pss_nil)))
      (pss_one (ps_ret (pe_ifExp (pt_val (pe_callB (cr_any rfl) (by rfl) T.any (by decide +kernel) (pa_cons (pe_lc (own := [("works", 2)]) (wi := iSeq K (tVar 0)) (g := gName 2) (tt := tYes) (te := tVar 2) rfl nd ?hi (blkOk_by (own := [("works", 2)]) (N := ["cycle", "at", "works"]) (sc := defScope (top 15)) (by decide +kernel)) ?hg ?ht ?he) pa_nil))) pe_non (pe_un un_neg pe_int)))))), ?rd⟩
    case hi => exact pi_seq (pv 0)
    case hg => exact fun _ _ _ _ _ => pg_name (i := 2) nd rfl (Or.inl rfl)
    case ht => exact fun _ _ _ _ _ => pts_nil
    case he => exact fun _ _ _ _ _ => pv 2
    refine run_R h (fun ds e ⟨d, c, e1, _⟩ => by rw [e1]; show 1 ≤ 3; decide) fun B0 H0 ds e ⟨d, c, e1, hd, h1, h2, h3, e2⟩ => ?_
    subst e1
    subst e2
    refine s_seq (s_if (b := false) (EvT.eq (t_or (t_not (t_B (d_row (d_var rfl) hd))) fun _ => t_not (t_test (d_within d_int (d_len (d_var rfl) hd) d_int))) ?_) (fun z => by cases z) fun _ => s_next ?_)
    · rw [List.length_map, decide_eq_true (show (1 : Int) ≤ (c.length : Int) by omega), decide_eq_true (show (c.length : Int) ≤ 14 by omega)]
      rfl
    have hw := wk_enumS (n := 0) (c := ⟨K, none, B0, H0⟩) (ρ := [.da d, .no, .no]) (tr := tCons (tVar 0) tNil) (d := d) (ds := c.map .bl) (a_cons (d_var rfl) a_nil) hd
    rw [List.length_map] at hw
    refine s_seq (s_for (N := c.length) (dd := pairK (c.map .bl)) (fun k ρ' n' => n' = 0 ∧ ∃ x y, ρ' = [.da d, x, y]) hw ⟨rfl, .no, .no, rfl⟩ (fun k ρ' n' hk ⟨hn, x, y, e⟩ => ?_) fun ρ' n' ⟨hn, x, y, e⟩ => ?_)
    · subst e
      subst hn
      refine ⟨[.da d, .da (.int (k : Int)), .da (.bl (c.getD k false))], ?_, ?_⟩
      · unfold pairK
        rw [nth_map false hk]
        exact tg_tup rfl (tgs_cons tg_name (tgs_cons tg_name tgs_nil))
      · exact s_if (b := false) ((t_not (t_B (d_isi (t := "bool") (T := "bool") (b := true) (d_var rfl) rfl (by decide +kernel)))).eq rfl) (fun z => by cases z) fun _ => s_next ⟨rfl, _, _, rfl⟩
    · subst e
      subst hn
      have lc : ∀ n, EvO ⟨K, none, B0, H0⟩ (tLc (iSeq K (tVar 0)) (gName 2) tYes (tVar 2) [2]) [.da d, x, y] n fun ds m => ds = c.map Da.bl ∧ m = n := fun n => by
        have hw := wk_seq (n := n) (c := ⟨K, none, B0, H0⟩) (ρ := [.da d, x, y]) (te := tVar 0) (d := d) (d_var rfl) hd
        rw [List.length_map] at hw
        have z := o_lcK (c := ⟨K, none, B0, H0⟩) (ρ := [.da d, x, y]) (n := n) (wi := iSeq K (tVar 0)) (g := gName 2) (tt := tYes) (te := tVar 2) (vs := [2]) (N := c.length) (dd := nth (c.map .bl)) (ρ2 := fun k => [.da d, x, .da (.bl (c.getD k false))]) (b := fun _ => true) (el := fun k => .bl (c.getD k false)) hw (by omega) (fun k hk => ?_) (fun _ _ => t_yes) (fun k hk _ => d_var rfl)
        · rw [range_filter c false (fun _ => true) Da.bl, List.filter_eq_self.mpr fun _ _ => rfl] at z
          exact z
        · rw [nth_map false hk]
          exact tw_name (by decide)
      refine s_ret (d_if (b := true) ((t_B (d_cb (a_cons (d_ofO lc) a_nil) cd_any)).eq ?_) (fun _ => d_non) fun z => by cases z) rfl
      exact List.any_eq_true.mpr ⟨true, h3, rfl⟩
end

end Ca


set_option Elab.async false
set_option autoImplicit false
set_option linter.all false
set_option maxRecDepth 100000
set_option maxHeartbeats 4000000
namespace Ca
open PySem PySem.Spec PyProof.Rows L2 Cmb Ly Cal
section
variable {P : Program} {w : World} {K : PySem.W.Frag} {mg : Str → Option Value} {base : Heap} {f : Addr} {fd : FuncData} {C : Addr}
/-! ### is_change, changes_fault -/
def SChange : List Da → Da → Prop := fun ds e => ∃ (q : Int × Bool) (l : Int), ds = [chD q, .int l] ∧ e = .bl (decide (q.1 > l))
theorem sc_is_change : FnScope ["value", "last"] ["value", "last"] (defScope (top 16)) := ⟨rfl, rfl, rfl, by decide +kernel, rfl, by decide +kernel, by decide +kernel⟩
theorem ok_is_change (F : FnP K "is_change" (top 16) f fd) (T : Txt K mg C) (D_is_whole : Dn P w K mg base 1 "is_whole" ["value"] (spR K SWhole)) : FnOk P w K mg base CX0 2 f fd ["value", "last"] (spR K SChange) := by
  have nd := sc_is_change.nd
  refine F.ok sc_is_change (fun vs H Q E h => ?_) (fun cdv A outer s H vs Q E hr h => ?_)
  · obtain ⟨B, ds, e, _, rv, ⟨q, l, rfl, _⟩, _⟩ := h
    exact rv.len
  · refine ⟨_, PSs.nox (pss_cons (ps_if (PW.pt (pw_or (pt_not (pt_val (pe_callB call_isi (by rfl) T.isinstance (by decide +kernel) (pa_cons (pv 0) (pa_cons (pe_bty (T := "tuple") (by rfl) T.tuple (by decide +kernel)) pa_nil))))) (pw_or1 (pt_cmpR op_ne (pe_callB call_len_seq (by rfl) T.len PySem.boot_len (pa_cons (pv 0) pa_nil)) pe_int (nomark _))))) (pss_one (ps_ret pe_bl)) pss_nil)
      (pss_one (ps_ret (pe_and (pe_d D_is_whole (hr.mono (by decide)) (pa_cons (pe_ix ix_tup (pv 0) pe_int (fun _ _ => rfl)) pa_nil)) (pe_and (pe_cmpR op_gt (pe_ix ix_tup (pv 0) pe_int (fun _ _ => rfl)) (pv 1) (nomark _)) (pe_one (pe_callB call_isi (by rfl) T.isinstance (by decide +kernel) (pa_cons (pe_ix ix_tup (pv 0) pe_int (fun _ _ => rfl)) (pa_cons (pe_bty (T := "bool") (by rfl) T.bool (by decide +kernel)) pa_nil))))))))), ?rd⟩
    refine run_R h (fun ds e ⟨q, l, e1, _⟩ => by rw [e1]; show 2 ≤ 2; decide) fun B0 H0 ds e ⟨q, l, e1, e2⟩ => ?_
    subst e1
    subst e2
    refine s_seq (s_if (b := false) (EvT.eq (t_or (t_not (t_B (d_isi (t := "tuple") (T := "tuple") (b := true) (d_var rfl) rfl (by decide +kernel)))) fun _ => t_test (d_neI (d_len (ds := [.int q.1, .bl q.2]) (d_var rfl) rfl) d_int)) rfl) (fun z => by cases z) fun _ => s_next ?_)
    refine s_ret ((d_and (d_whole (d_ixT (ds := [.int q.1, .bl q.2]) (d_var rfl) d_int rfl)) fun _ => d_and (d_cmp2 (g := fun i j => decide (i > j)) (d_ixT (ds := [.int q.1, .bl q.2]) (d_var rfl) d_int rfl) (d_var rfl)) fun _ => d_isi (t := "bool") (T := "bool") (b := true) (d_ixT (ds := [.int q.1, .bl q.2]) (d_var rfl) d_int rfl) rfl (by decide +kernel)).eq ?_) rfl
    simp
def lastOf (ch : Chs) : Nat → Int
  | 0 => -1
  | k + 1 => (ch.getD k (0, false)).1
theorem asc_last : ∀ {ch : Chs} {lo : Int}, Asc lo ch → ∀ k, k < ch.length → (match k with | 0 => lo | j + 1 => (ch.getD j (0, false)).1) < (ch.getD k (0, false)).1
  | [], _, _, k, h => absurd h (Nat.not_lt_zero _)
  | q :: r, lo, h, k, hk => by
    cases k with
    | zero => exact h.1
    | succ k =>
      have := asc_last h.2 k (Nat.lt_of_succ_lt_succ hk)
      cases k with
      | zero => exact this
      | succ j => exact this
def SChf : List Da → Da → Prop := fun ds e => ∃ (d : Da) (ch : Chs), ds = [d] ∧ d.its = some (ch.map chD) ∧ ch.length ≤ 10 ∧ Asc (-1) ch ∧ e = .non
theorem sc_changes_fault : FnScope ["changes", "last", "at", "change"] ["changes"] (defScope (top 17)) := ⟨rfl, rfl, rfl, by decide +kernel, rfl, by decide +kernel, by decide +kernel⟩
theorem ok_changes_fault (F : FnP K "changes_fault" (top 17) f fd) (T : Txt K mg C) (D_is_row : Dn P w K mg base 1 "is_row" ["value"] (spR K SRow)) (D_is_change : Dn P w K mg base 2 "is_change" ["value", "last"] (spR K SChange)) : FnOk P w K mg base CX0 3 f fd ["changes"] (spR K SChf) := by
  have nd := sc_changes_fault.nd
  obtain ⟨t1, g1⟩ := T.most
  refine F.ok sc_changes_fault (fun vs H Q E h => ?_) (fun cdv A outer s H vs Q E hr h => ?_)
  · obtain ⟨B, ds, e, _, rv, ⟨d, c, rfl, _⟩, _⟩ := h
    exact rv.len
  · refine ⟨_, PSs.nox (pss_cons (ps_if (PW.pt (pw_or (pt_not (pt_val (pe_d D_is_row (hr.mono (by decide)) (pa_cons (pv 0) pa_nil)))) (pw_or1 (pt_cmpR op_gt (pe_callB call_len_seq (by rfl) T.len PySem.boot_len (pa_cons (pv 0) pa_nil)) (pe_glob (v := .int 10) (by rfl) g1 ⟨_, rfl⟩) (nomark _))))) (pss_one (ps_ret (pe_un un_neg pe_int))) pss_nil)
      (pss_cons (ps_set (i := 1) nd rfl (Or.inl rfl) (pe_un un_neg pe_int))
      (pss_cons (ps_for PassesOwn.never rfl (pi_enumS (by rfl) T.enumerate (pa_cons (pv 0) pa_nil)) (pg_tup rfl (pgs_cons (pg_name (i := 2) nd rfl (Or.inl rfl)) (pgs_cons (pg_name (i := 3) nd rfl (Or.inl rfl)) pgs_nil)))
        (pss_cons (ps_if (pt_not (pt_val (pe_d D_is_change (hr.mono (by decide)) (pa_cons (pv 3) (pa_cons (pv 1) pa_nil))))) (pss_one (ps_ret (pv 2))) pss_nil)
        (pss_one (ps_set (i := 1) nd rfl (Or.inl rfl) (pe_ix ix_tup (pv 3) pe_int (fun _ _ => rfl))))))
      (pss_one (ps_ret pe_non))))), ?rd⟩
    refine run_R h (fun ds e ⟨d, c, e1, _⟩ => by rw [e1]; show 1 ≤ 4; decide) fun B0 H0 ds e ⟨d, ch, e1, hd, h1, h2, e2⟩ => ?_
    subst e1
    subst e2
    refine s_seq (s_if (b := false) (EvT.eq (t_or (t_not (t_B (d_row (d_var rfl) hd))) fun _ => t_test (d_cmp2 (g := fun i j => decide (i > j)) (d_len (d_var rfl) hd) d_int)) ?_) (fun z => by cases z) fun _ => s_next ?_)
    · rw [List.length_map, decide_eq_false (show ¬ (ch.length : Int) > 10 by omega)]
      rfl
    refine s_seq (s_set (d_neg d_int) ?_)
    have hw := wk_enumS (n := 0) (c := ⟨K, none, B0, H0⟩) (ρ := [.da d, .da (.int (-1)), .no, .no]) (tr := tCons (tVar 0) tNil) (d := d) (ds := ch.map chD) (a_cons (d_var rfl) a_nil) hd
    rw [List.length_map] at hw
    refine s_seq (s_for (N := ch.length) (dd := pairK (ch.map chD)) (fun k ρ' n' => n' = 0 ∧ ∃ x y, ρ' = [.da d, .da (.int (lastOf ch k)), x, y]) hw ⟨rfl, .no, .no, rfl⟩ (fun k ρ' n' hk ⟨hn, x, y, e⟩ => ?_) fun ρ' n' ⟨hn, x, y, e⟩ => ?_)
    · subst e
      subst hn
      refine ⟨[.da d, .da (.int (lastOf ch k)), .da (.int (k : Int)), .da (chD (ch.getD k (0, false)))], ?_, ?_⟩
      · unfold pairK
        rw [nth_map (0, false) hk]
        exact tg_tup rfl (tgs_cons tg_name (tgs_cons tg_name tgs_nil))
      · have hl : (ch.getD k (0, false)).1 > lastOf ch k := by
          have := asc_last h2 k hk
          cases k with
          | zero => exact this
          | succ j => exact this
        refine s_seq (s_if (b := false) ((t_not (t_B (d_call (S := SChange) (a_cons (d_var rfl) (a_cons (d_var rfl) a_nil)) ⟨_, _, rfl, rfl⟩))).eq ?_) (fun z => by cases z) fun _ => s_next ?_)
        · rw [decide_eq_true hl]
          rfl
        · exact s_set (d_ixT (ds := [.int (ch.getD k (0, false)).1, .bl (ch.getD k (0, false)).2]) (d_var rfl) d_int rfl) ⟨rfl, _, _, rfl⟩
    · subst e
      exact s_ret d_non rfl
/-! ### what is asked of arguments -/
def SNeedC (C : Addr) : List Da → Da → Prop := fun ds e => ∃ (c : List Bool) (ch : Chs) (p : Str), ds = [calD C c ch, .str p] ∧ e = .non
theorem sc_need_calendar : FnScope ["calendar", "part"] ["calendar", "part"] (defScope (top 18)) := ⟨rfl, rfl, rfl, by decide +kernel, rfl, by decide +kernel, by decide +kernel⟩
theorem ok_need_calendar (F : FnP K "need_calendar" (top 18) f fd) (T : Txt K mg C) : FnOk P w K mg base CX0 1 f fd ["calendar", "part"] (spR K (SNeedC C)) := by
  have nd := sc_need_calendar.nd
  refine F.ok sc_need_calendar (fun vs H Q E h => ?_) (fun cdv A outer s H vs Q E hr h => ?_)
  · obtain ⟨B, ds, e, _, rv, ⟨c, ch, p, rfl, _⟩, _⟩ := h
    exact rv.len
  · refine ⟨_, PSs.nox (pss_one (ps_if (pt_not (pt_val (pe_callB call_isi (by rfl) T.isinstance (by decide +kernel) (pa_cons (pv 0) (pa_cons (pe_glob (v := .ref C) (by rfl) T.Calendar rfl) pa_nil))))) (pss_one ps_never) pss_nil)), ?rd⟩
    refine run_R h (fun ds e ⟨c, ch, p, e1, _⟩ => by rw [e1]; show 2 ≤ 2; decide) fun B0 H0 ds e ⟨c, ch, p, e1, e2⟩ => ?_
    subst e1
    subst e2
    exact s_if (b := false) ((t_not (t_B (d_isO (mg := mg) T (d_var rfl)))).eq rfl) (fun z => by cases z) fun _ => s_next rfl
def SNat : List Da → Da → Prop := fun ds e => ∃ i : Int, ds = [.int i] ∧ e = .bl (decide (0 ≤ i))
theorem sc_is_natural : FnScope ["value"] ["value"] (defScope (top 7)) := ⟨rfl, rfl, rfl, by decide +kernel, rfl, by decide +kernel, by decide +kernel⟩
theorem ok_is_natural (F : FnP K "is_natural" (top 7) f fd) (T : Txt K mg C) (D_is_whole : Dn P w K mg base 1 "is_whole" ["value"] (spR K SWhole)) : FnOk P w K mg base CX0 2 f fd ["value"] (spR K SNat) := by
  have nd := sc_is_natural.nd
  refine F.ok sc_is_natural (fun vs H Q E h => ?_) (fun cdv A outer s H vs Q E hr h => ?_)
  · obtain ⟨B, ds, e, _, rv, ⟨i, rfl, _⟩, _⟩ := h
    exact rv.len
  · refine ⟨_, PSs.nox (pss_one (ps_ret (pe_and (pe_d D_is_whole (hr.mono (by decide)) (pa_cons (pv 0) pa_nil)) (pe_one (pe_cmpR op_ge (pv 0) pe_int (nomark _)))))), ?rd⟩
    refine run_R h (fun ds e ⟨i, e1, _⟩ => by rw [e1]; show 1 ≤ 1; decide) fun B0 H0 ds e ⟨i, e1, e2⟩ => ?_
    subst e1
    subst e2
    exact s_ret ((d_and (d_whole (d_var rfl)) fun _ => d_cmp2 (g := fun i j => decide (j ≤ i)) (d_var rfl) d_int).eq rfl) rfl
theorem d_natural {c : Ly.Ctx} {ρ : List Cell} {te : TE} {i : Int} (h : EvD c te ρ (.int i)) : EvD c (tCall (spR c.K SNat) [] E0 (tCons te tNil)) ρ (.bl (decide (0 ≤ i))) := d_call (a_cons h a_nil) ⟨i, rfl, rfl⟩
def SNeedN : List Da → Da → Prop := fun ds e => ∃ (i : Int) (p : Str), ds = [.int i, .str p] ∧ 0 ≤ i ∧ e = .non
theorem sc_need_number : FnScope ["value", "part"] ["value", "part"] (defScope (top 10)) := ⟨rfl, rfl, rfl, by decide +kernel, rfl, by decide +kernel, by decide +kernel⟩
theorem ok_need_number (F : FnP K "need_number" (top 10) f fd) (T : Txt K mg C) (D_is_natural : Dn P w K mg base 2 "is_natural" ["value"] (spR K SNat)) : FnOk P w K mg base CX0 3 f fd ["value", "part"] (spR K SNeedN) := by
  have nd := sc_need_number.nd
  refine F.ok sc_need_number (fun vs H Q E h => ?_) (fun cdv A outer s H vs Q E hr h => ?_)
  · obtain ⟨B, ds, e, _, rv, ⟨i, p, rfl, _⟩, _⟩ := h
    exact rv.len
  · refine ⟨_, PSs.nox (pss_one (ps_if (pt_not (pt_val (pe_d D_is_natural (hr.mono (by decide)) (pa_cons (pv 0) pa_nil)))) (pss_one ps_never) pss_nil)), ?rd⟩
    refine run_R h (fun ds e ⟨i, p, e1, _⟩ => by rw [e1]; show 2 ≤ 2; decide) fun B0 H0 ds e ⟨i, p, e1, h0, e2⟩ => ?_
    subst e1
    subst e2
    refine s_if (b := false) (EvT.eq (t_not (t_B (d_natural (d_var rfl)))) ?_) (fun z => by cases z) fun _ => s_next rfl
    rw [decide_eq_true h0]
    rfl
end

end Ca


set_option Elab.async false
set_option autoImplicit false
set_option linter.all false
set_option maxRecDepth 100000
set_option maxHeartbeats 4000000
namespace Ca
open PySem PySem.Spec PyProof.Rows L2 Cmb Ly Cal
section
variable {P : Program} {w : World} {K : PySem.W.Frag} {mg : Str → Option Value} {base : Heap} {f : Addr} {fd : FuncData} {C : Addr}
/-! ### the cycle: working_places, by_cycle, cycle_ahead, cycle_slot, gain -/
def SPlaces : List Da → Da → Prop := fun ds e => ∃ c : List Bool, ds = [cycD c] ∧ c.length ≤ 100000 ∧ e = .lst ((places c).map .int)
def SByC : List Da → Da → Prop := fun ds e => ∃ (c : List Bool) (s : Int), ds = [cycD c, .int s] ∧ 0 < c.length ∧ c.length ≤ 100000 ∧ e = .bl (byC c s)
theorem sc_by_cycle : FnScope ["cycle", "slot"] ["cycle", "slot"] (defScope (top 19)) := ⟨rfl, rfl, rfl, by decide +kernel, rfl, by decide +kernel, by decide +kernel⟩
theorem ok_by_cycle (F : FnP K "by_cycle" (top 19) f fd) (T : Txt K mg C) : FnOk P w K mg base CX0 1 f fd ["cycle", "slot"] (spR K SByC) := by
  have nd := sc_by_cycle.nd
  refine F.ok sc_by_cycle (fun vs H Q E h => ?_) (fun cdv A outer s H vs Q E hr h => ?_)
  · obtain ⟨B, ds, e, _, rv, ⟨c, s, rfl, _⟩, _⟩ := h
    exact rv.len
  · refine ⟨_, PSs.nox (pss_one (ps_ret (pe_ix ix_tup (pv 0) (pe_op op_mod (pv 1) (pe_callB call_len_seq (by rfl) T.len PySem.boot_len (pa_cons (pv 0) pa_nil))) (fun _ _ => rfl)))), ?rd⟩
    refine run_R h (fun ds e ⟨c, s, e1, _⟩ => by rw [e1]; show 2 ≤ 2; decide) fun B0 H0 ds e ⟨c, s, e1, h1, h2, e2⟩ => ?_
    subst e1
    subst e2
    refine s_ret (d_ixT (ds := c.map .bl) (d_var rfl) (d_int2c (d_var rfl) (d_lenM (f := Da.bl) (l := c) (d_var rfl) rfl) ?_) ?_) rfl
    · show (0 : Int) < (c.length : Int)
      omega
    · exact atI_map (f := Da.bl) false (Int.emod_nonneg _ (by omega)) (Int.emod_lt_of_pos _ (by omega))
theorem d_byC {c : Ly.Ctx} {ρ : List Cell} {ta tb : TE} {cy : List Bool} {s : Int} (ha : EvD c ta ρ (cycD cy)) (hb : EvD c tb ρ (.int s)) (h1 : 0 < cy.length) (h2 : cy.length ≤ 100000) : EvD c (tCall (spR c.K SByC) [] E0 (tCons ta (tCons tb tNil))) ρ (.bl (byC cy s)) := d_call (a_cons ha (a_cons hb a_nil)) ⟨cy, s, rfl, h1, h2, rfl⟩
theorem d_places {c : Ly.Ctx} {ρ : List Cell} {ta : TE} {cy : List Bool} (ha : EvD c ta ρ (cycD cy)) (h2 : cy.length ≤ 100000) : EvD c (tCall (spR c.K SPlaces) [] E0 (tCons ta tNil)) ρ (.lst ((places cy).map .int)) := d_call (a_cons ha a_nil) ⟨cy, rfl, h2, rfl⟩
theorem places_le (c : List Bool) : (places c).length ≤ c.length := by
  unfold places
  rw [List.length_map]
  exact Nat.le_trans (List.length_filter_le _ _) (by rw [List.length_range]; exact Nat.le_refl _)
def SAhead : List Da → Da → Prop := fun ds e => ∃ (c : List Bool) (s : Int), ds = [cycD c, .int s] ∧ 0 < c.length ∧ c.length ≤ 100000 ∧ e = .int (ahead c s)
def SSlot : List Da → Da → Prop := fun ds e => ∃ (c : List Bool) (a : Int), ds = [cycD c, .int a] ∧ 0 < (places c).length ∧ c.length ≤ 100000 ∧ e = .int (slotC c a)
def SGain : List Da → Da → Prop := fun ds e => ∃ (c : List Bool) (s : Int) (w : Bool), ds = [cycD c, .int s, .bl w] ∧ 0 < c.length ∧ c.length ≤ 100000 ∧ e = .int (gain c s w)
theorem sc_gain : FnScope ["cycle", "slot", "works"] ["cycle", "slot", "works"] (defScope (top 20)) := ⟨rfl, rfl, rfl, by decide +kernel, rfl, by decide +kernel, by decide +kernel⟩
theorem d_b2 {c : Ly.Ctx} {ρ : List Cell} {tt : TT} {b : Bool} (h : EvT c tt ρ b) : EvD c (tIf tt (tC (.int 1)) (tC (.int 0))) ρ (.int (b2 b)) := d_if h (fun e => by rw [e]; exact d_int) fun e => by rw [e]; exact d_int
theorem ok_gain (F : FnP K "gain" (top 20) f fd) (T : Txt K mg C) (D_by_cycle : Dn P w K mg base 1 "by_cycle" ["cycle", "slot"] (spR K SByC)) : FnOk P w K mg base CX0 2 f fd ["cycle", "slot", "works"] (spR K SGain) := by
  have nd := sc_gain.nd
  refine F.ok sc_gain (fun vs H Q E h => ?_) (fun cdv A outer s H vs Q E hr h => ?_)
  · obtain ⟨B, ds, e, _, rv, ⟨c, s, w, rfl, _⟩, _⟩ := h
    exact rv.len
  · refine ⟨_, PSs.nox (pss_one (ps_ret (pe_op op_sub (pe_ifExp (pt_val (pv 2)) pe_int pe_int) (pe_ifExp (pt_val (pe_d D_by_cycle (hr.mono (by decide)) (pa_cons (pv 0) (pa_cons (pv 1) pa_nil)))) pe_int pe_int)))), ?rd⟩
    refine run_R h (fun ds e ⟨c, s, w, e1, _⟩ => by rw [e1]; show 3 ≤ 3; decide) fun B0 H0 ds e ⟨c, s, w, e1, h1, h2, e2⟩ => ?_
    subst e1
    subst e2
    exact s_ret (d_int2 (d_b2 (t_B (d_var rfl))) (d_b2 (t_B (d_byC (d_var rfl) (d_var rfl) h1 h2)))) rfl
end

end Ca


set_option Elab.async false
set_option autoImplicit false
set_option linter.all false
set_option maxRecDepth 100000
set_option maxHeartbeats 4000000
namespace Ca
open PySem PySem.Spec PyProof.Rows L2 Cmb Ly Cal
section
variable {P : Program} {w : World} {K : PySem.W.Frag} {mg : Str → Option Value} {base : Heap} {f : Addr} {fd : FuncData} {C : Addr}
theorem drop_at {α : Type} {l : List α} {k : Nat} (d : α) (h : k < l.length) : l.drop k = l.getD k d :: l.drop (k + 1) := by
  rw [List.getD_eq_getElem?_getD, List.getElem?_eq_getElem h, List.drop_eq_getElem_cons h]
  rfl
/-! ### works_at, works_ahead, slot_behind -/
def SWorks (C : Addr) : List Da → Da → Prop := fun ds e => ∃ (c : List Bool) (ch : Chs) (s : Int), ds = [calD C c ch, .int s] ∧ 0 < c.length ∧ c.length ≤ 100000 ∧ e = .bl (works c ch s)
theorem sc_works_at : FnScope ["calendar", "slot", "changed", "works"] ["calendar", "slot"] (defScope (top 21)) := ⟨rfl, rfl, rfl, by decide +kernel, rfl, by decide +kernel, by decide +kernel⟩
theorem ok_works_at (F : FnP K "works_at" (top 21) f fd) (T : Txt K mg C) (D_by_cycle : Dn P w K mg base 1 "by_cycle" ["cycle", "slot"] (spR K SByC)) : FnOk P w K mg base CX0 2 f fd ["calendar", "slot"] (spR K (SWorks C)) := by
  have nd := sc_works_at.nd
  refine F.ok sc_works_at (fun vs H Q E h => ?_) (fun cdv A outer s H vs Q E hr h => ?_)
  · obtain ⟨B, ds, e, _, rv, ⟨c, ch, s, rfl, _⟩, _⟩ := h
    exact rv.len
  · refine ⟨_, PSs.nox (pss_cons (ps_for PassesOwn.never rfl (pi_seq (pe_fld (pv 0) rfl)) (pg_tup rfl (pgs_cons (pg_name (i := 2) nd rfl (Or.inl rfl)) (pgs_cons (pg_name (i := 3) nd rfl (Or.inl rfl)) pgs_nil))) (pss_one (ps_if (pt_cmpR op_eq (pv 2) (pv 1) (nomark _)) (pss_one (ps_ret (pv 3))) pss_nil)))
      (pss_one (ps_ret (pe_d D_by_cycle (hr.mono (by decide)) (pa_cons (pe_fld (pv 0) rfl) (pa_cons (pv 1) pa_nil)))))), ?rd⟩
    refine run_R h (fun ds e ⟨c, ch, s, e1, _⟩ => by rw [e1]; show 2 ≤ 4; decide) fun B0 H0 ds e ⟨c, ch, s, e1, h1, h2, e2⟩ => ?_
    subst e1
    subst e2
    have hw := wk_seq (n := 0) (c := ⟨K, none, B0, H0⟩) (ρ := [.da (calD C c ch), .da (.int s), .no, .no]) (te := tFld K (tVar 0) "changes") (d := chsD ch) (ds := ch.map chD) (d_chs (mg := mg) T (d_var rfl)) rfl
    rw [List.length_map] at hw
    refine s_seq (s_for (N := ch.length) (dd := nth (ch.map chD)) (fun k ρ' n' => n' = 0 ∧ works c ch s = works c (ch.drop k) s ∧ ∃ x y, ρ' = [.da (calD C c ch), .da (.int s), x, y]) hw ⟨rfl, rfl, .no, .no, rfl⟩ (fun k ρ' n' hk ⟨hn, hi, x, y, e⟩ => ?_) fun ρ' n' ⟨hn, hi, x, y, e⟩ => ?_)
    · subst e
      subst hn
      rw [drop_at (0, false) hk] at hi
      refine ⟨[.da (calD C c ch), .da (.int s), .da (.int (ch.getD k (0, false)).1), .da (.bl (ch.getD k (0, false)).2)], ?_, ?_⟩
      · rw [nth_map (0, false) hk]
        exact tg_tup rfl (tgs_cons tg_name (tgs_cons tg_name tgs_nil))
      · refine s_if (t_test (d_eqI (d_var rfl) (d_var rfl))) (fun z => s_ret (d_var rfl) ?_) fun z => s_next ⟨rfl, ?_, _, _, rfl⟩
        · have z := of_decide_eq_true z
          show Da.bl _ = Da.bl _
          rw [hi]
          congr 1
          exact (if_pos z).symm
        · have z := of_decide_eq_false z
          rw [hi]
          exact if_neg z
    · subst e
      subst hn
      refine s_ret (d_byC (d_cyc (mg := mg) T (d_var rfl)) (d_var rfl) h1 h2) ?_
      show Da.bl _ = Da.bl _
      rw [hi, List.drop_length]
      rfl
theorem d_worksAt {c : Ly.Ctx} {ρ : List Cell} {ta tb : TE} {C : Addr} {cy : List Bool} {ch : Chs} {s : Int} (ha : EvD c ta ρ (calD C cy ch)) (hb : EvD c tb ρ (.int s)) (h1 : 0 < cy.length) (h2 : cy.length ≤ 100000) : EvD c (tCall (spR c.K (SWorks C)) [] E0 (tCons ta (tCons tb tNil))) ρ (.bl (works cy ch s)) := d_call (a_cons ha (a_cons hb a_nil)) ⟨cy, ch, s, rfl, h1, h2, rfl⟩
theorem d_ahead {c : Ly.Ctx} {ρ : List Cell} {ta tb : TE} {cy : List Bool} {s : Int} (ha : EvD c ta ρ (cycD cy)) (hb : EvD c tb ρ (.int s)) (h1 : 0 < cy.length) (h2 : cy.length ≤ 100000) : EvD c (tCall (spR c.K SAhead) [] E0 (tCons ta (tCons tb tNil))) ρ (.int (ahead cy s)) := d_call (a_cons ha (a_cons hb a_nil)) ⟨cy, s, rfl, h1, h2, rfl⟩
theorem d_slotC {c : Ly.Ctx} {ρ : List Cell} {ta tb : TE} {cy : List Bool} {s : Int} (ha : EvD c ta ρ (cycD cy)) (hb : EvD c tb ρ (.int s)) (h1 : 0 < (places cy).length) (h2 : cy.length ≤ 100000) : EvD c (tCall (spR c.K SSlot) [] E0 (tCons ta (tCons tb tNil))) ρ (.int (slotC cy s)) := d_call (a_cons ha (a_cons hb a_nil)) ⟨cy, s, rfl, h1, h2, rfl⟩
theorem d_gain {c : Ly.Ctx} {ρ : List Cell} {ta tb tc : TE} {cy : List Bool} {s : Int} {w : Bool} (ha : EvD c ta ρ (cycD cy)) (hb : EvD c tb ρ (.int s)) (hc : EvD c tc ρ (.bl w)) (h1 : 0 < cy.length) (h2 : cy.length ≤ 100000) : EvD c (tCall (spR c.K SGain) [] E0 (tCons ta (tCons tb (tCons tc tNil)))) ρ (.int (gain cy s w)) := d_call (a_cons ha (a_cons hb (a_cons hc a_nil))) ⟨cy, s, w, rfl, h1, h2, rfl⟩
def SWAhead (C : Addr) : List Da → Da → Prop := fun ds e => ∃ (c : List Bool) (ch : Chs) (s : Int), ds = [calD C c ch, .int s] ∧ 0 < c.length ∧ c.length ≤ 100000 ∧ ch.length ≤ 100000 ∧ e = .int (wAhead c ch s)
theorem d_wAhead {c : Ly.Ctx} {ρ : List Cell} {ta tb : TE} {C : Addr} {cy : List Bool} {ch : Chs} {s : Int} (ha : EvD c ta ρ (calD C cy ch)) (hb : EvD c tb ρ (.int s)) (h1 : 0 < cy.length) (h2 : cy.length ≤ 100000) (h3 : ch.length ≤ 100000) : EvD c (tCall (spR c.K (SWAhead C)) [] E0 (tCons ta (tCons tb tNil))) ρ (.int (wAhead cy ch s)) := d_call (a_cons ha (a_cons hb a_nil)) ⟨cy, ch, s, rfl, h1, h2, h3, rfl⟩
def SBehind (C : Addr) : List Da → Da → Prop := fun ds e => ∃ (c : List Bool) (ch : Chs) (a : Int), ds = [calD C c ch, .int a] ∧ true ∈ c ∧ c.length ≤ 100000 ∧ e = .int (slotB c ch 0 a)
end

end Ca


set_option Elab.async false
set_option autoImplicit false
set_option linter.all false
set_option maxRecDepth 100000
set_option maxHeartbeats 4000000
namespace Ca
open PySem PySem.Spec PyProof.Rows L2 Cmb Ly Cal
section
variable {P : Program} {w : World} {K : PySem.W.Frag} {mg : Str → Option Value} {base : Heap} {f : Addr} {fd : FuncData} {C : Addr}
theorem d_behind {c : Ly.Ctx} {ρ : List Cell} {ta tb : TE} {C : Addr} {cy : List Bool} {ch : Chs} {s : Int} (ha : EvD c ta ρ (calD C cy ch)) (hb : EvD c tb ρ (.int s)) (h1 : true ∈ cy) (h2 : cy.length ≤ 100000) : EvD c (tCall (spR c.K (SBehind C)) [] E0 (tCons ta (tCons tb tNil))) ρ (.int (slotB cy ch 0 s)) := d_call (a_cons ha (a_cons hb a_nil)) ⟨cy, ch, s, rfl, h1, h2, rfl⟩
theorem d_needC {c : Ly.Ctx} {ρ : List Cell} {ta : TE} {C : Addr} {cy : List Bool} {ch : Chs} {p : Str} (ha : EvD c ta ρ (calD C cy ch)) : EvD c (tCall (spR c.K (SNeedC C)) [] E0 (tCons ta (tCons (tC (.str p)) tNil))) ρ .non := d_call (a_cons ha (a_cons d_str a_nil)) ⟨cy, ch, p, rfl, rfl⟩
theorem d_needN {c : Ly.Ctx} {ρ : List Cell} {ta : TE} {i : Int} {p : Str} (ha : EvD c ta ρ (.int i)) (h : 0 ≤ i) : EvD c (tCall (spR c.K SNeedN) [] E0 (tCons ta (tCons (tC (.str p)) tNil))) ρ .non := d_call (a_cons ha (a_cons d_str a_nil)) ⟨i, p, rfl, h, rfl⟩
end

end Ca


set_option Elab.async false
set_option autoImplicit false
set_option linter.all false
set_option maxRecDepth 100000
set_option maxHeartbeats 4000000
namespace Ca
open PySem PySem.Spec PyProof.Rows L2 Cmb Ly Cal
/-! ### a Calendar is made -/
/-- an object of one's own at x that is not data yet: what stands behind steps that change it alone -/
structure IS (x : Addr) (B H Bi Hi : Hp) (o : HO) : Prop where
  eb : Evl.Ex B Bi
  bh : Evl.Ex Bi Hi
  bx : Bi x = none
  eh : ∀ a u, a ≠ x → H a = some u → Hi a = some u
  fr : ∀ a, a ≠ x → B a = none → H a ≠ none → Bi a = none
  hx : Hi x = some o
theorem IS.start {x : Addr} {B H : Hp} {o : HO} (bh : Evl.Ex B H) (bx : B x = none) (hx : H x = some o) : IS x B H B H o := ⟨Evl.Ex.refl _, bh, bx, fun _ _ _ h => h, fun _ _ h _ => h, hx⟩
theorem IS.step {x : Addr} {B H Bi Hi Bj Hj : Hp} {o : HO} (I : IS x B H Bi Hi o) (s : Pure Bi Hi Bj Hj) : IS x B H Bj Hj o := by
  refine ⟨I.eb.trans s.eb, s.bh, s.fr x I.bx (by rw [I.hx]; exact fun z => nomatch z), fun a u n h => s.eh _ _ (I.eh a u n h), fun a n h1 h2 => ?_, s.eh _ _ I.hx⟩
  refine s.fr a (I.fr a n h1 h2) fun z => ?_
  cases q : H a with
  | none => exact h2 q
  | some u =>
    have := I.eh a u n q
    rw [z] at this
    cases this
theorem IS.set {x : Addr} {B H Bi Hi : Hp} {o o' : HO} (I : IS x B H Bi Hi o) : IS x B H Bi (upd Hi x o') o' := by
  refine ⟨I.eb, fun a u h => ?_, I.bx, fun a u n h => ?_, I.fr, upd_same⟩
  · rw [upd_ne fun z => by rw [z, I.bx] at h; cases h]
    exact I.bh _ _ h
  · rw [upd_ne n]
    exact I.eh a u n h
theorem pure_new {B H : Hp} {p : Addr} {o : HO} (bh : Evl.Ex B H) (hp : H p = none) : Pure B H (upd B p o) (upd H p o) := by
  have bp : B p = none := Evl.fresh_back bh hp
  refine ⟨Evl.Ex.new bp, fun a u h => ?_, Evl.Ex.new hp, fun a h1 h2 => ?_⟩
  · by_cases q : a = p
    · subst q
      rw [upd_same] at h
      rw [upd_same]
      exact h
    · rw [upd_ne q] at h
      rw [upd_ne q]
      exact bh a u h
  · rw [upd_ne fun z => h2 (by rw [z]; exact hp)]
    exact h1
theorem pure_refl {B H : Hp} (bh : Evl.Ex B H) : Pure B H B H := ⟨Evl.Ex.refl _, bh, Evl.Ex.refl _, fun _ h _ => h⟩
theorem raw_tup {K : PySem.W.Frag} {B H : Hp} {v : V} {d : Da} {ds : List Da} {Q : VK} (bh : Evl.Ex B H) (r : Rep K B v d) (hd : d.its = some ds) (q : ∀ v' B2 H2, Pure B H B2 H2 → Rep K B2 v' (.tup ds) → Q v' H2) : rTupOf K [v] H Q := by
  cases r with
  | lst hs hr =>
    cases hd
    exact ⟨_, _, rfl, .inl ⟨SqL.of (bh _ _ hs), fun l hl => q _ _ _ (pure_new bh hl) (.tup (SqT.of upd_same) (hr.up (pure_new bh hl).eb))⟩⟩
  | tup hs hr =>
    cases hd
    exact ⟨_, _, rfl, .inr ⟨Evl.ex_t bh hs, q _ _ _ (pure_refl bh) (.tup hs hr)⟩⟩
  | non => cases hd
  | bl b => cases hd
  | int i => cases hd
  | str s => cases hd
  | ob hb hr => cases hd
theorem raw_tupE {K : PySem.W.Frag} {B H : Hp} {v : V} {d : Da} {ds : List Da} {Q : VK} {σ : L2.St} {i : Nat} (hi : σ[i]? = some (some v)) (bh : Evl.Ex B H) (r : Rep K B v d) (hd : d.its = some ds) (q : ∀ v' B2 H2, Pure B H B2 H2 → Rep K B2 v' (.tup ds) → Q v' H2) : tCB (rTupOf K) (tCons (tVar i) tNil) σ H Q := ⟨v, hi, raw_tup bh r hd q⟩
structure CalOk (c : List Bool) (ch : Chs) : Prop where
  l1 : 1 ≤ c.length
  l2 : c.length ≤ 14
  tr : true ∈ c
  l3 : ch.length ≤ 10
  asc : Asc (-1) ch
abbrev insC (C dx : Addr) (w1 w2 : V) : HO := .ins C dx [("cycle", w1), ("changes", w2)]
def spInit (K : PySem.W.Frag) (C : Addr) : Sp := fun vs H Q _ => ∃ (x dx : Addr) (v1 v2 : V) (B : Hp) (d1 d2 : Da) (c : List Bool) (ch : Chs), vs = [.ref x, v1, v2] ∧ H x = some (.ins C dx []) ∧ Evl.Ex B H ∧ B x = none ∧ Rep K B v1 d1 ∧ Rep K B v2 d2 ∧ d1.its = some (c.map .bl) ∧ d2.its = some (ch.map chD) ∧ CalOk c ch ∧
  ∀ Bi Hi w1 w2, IS x B H Bi Hi (insC C dx w1 w2) → Rep K Bi w1 (cycD c) → Rep K Bi w2 (chsD ch) → Q .non Hi
theorem put2 {w1 w2 : V} : putF "changes" w2 (putF "cycle" w1 []) = [(("cycle" : Str), w1), (("changes" : Str), w2)] := by
  have e : ¬ (("cycle" : Str) = "changes") := by decide +kernel
  show (if ("cycle" : Str) = "changes" then [(("cycle" : Str), w2)] else (("cycle" : Str), w1) :: [(("changes" : Str), w2)]) = _
  rw [if_neg e]
section
variable {P : Program} {w : World} {K : PySem.W.Frag} {mg : Str → Option Value} {base : Heap} {f : Addr} {fd : FuncData} {C : Addr}
abbrev FnI (K : PySem.W.Frag) (f : Addr) (fd : FuncData) : Prop := FunD K "__init__" "Calendar.__init__" (defArgs (inClass (top 14) 0)) (defBody (inClass (top 14) 0)) (defScope (inClass (top 14) 0)) [] [] f fd
theorem sc_init : FnScope ["self", "cycle", "changes", "at"] ["self", "cycle", "changes"] (defScope (inClass (top 14) 0)) := ⟨rfl, rfl, rfl, by decide +kernel, rfl, by decide +kernel, by decide +kernel⟩
theorem ok_init (F : FnI K f fd) (T : Txt K mg C) (D_cycle_fault : Dn P w K mg base 2 "cycle_fault" ["cycle"] (spR K SCf)) (D_changes_fault : Dn P w K mg base 3 "changes_fault" ["changes"] (spR K SChf)) : FnOk P w K mg base CX0 4 f fd ["self", "cycle", "changes"] (spInit K C) := by
  have nd := sc_init.nd
  refine F.ok sc_init (fun vs H Q E h => ?_) (fun cdv A outer s H vs Q E hr h => ?_)
  · obtain ⟨x, dx, v1, v2, B, d1, d2, c, ch, rfl, _⟩ := h
    rfl
  · obtain ⟨x, dx, v1, v2, B, d1, d2, c, ch, rfl, hx, bh, bx, r1, r2, hd1, hd2, O, k⟩ := h
    refine ⟨_, PSs.nox (pss_cons (ps_set (i := 3) nd rfl (Or.inl rfl) (pe_d D_cycle_fault (hr.mono (by decide)) (pa_cons (pv 1) pa_nil)))
      (pss_cons (ps_if (pt_cmpR op_notN (pv 3) pe_non (nomark _)) (pss_one ps_never) pss_nil)
      (pss_cons (ps_set (i := 3) nd rfl (Or.inl rfl) (pe_d D_changes_fault (hr.mono (by decide)) (pa_cons (pv 2) pa_nil)))
      (pss_cons (ps_if (pt_cmpR op_notN (pv 3) pe_non (nomark _)) (pss_one ps_never) pss_nil)
      (pss_cons (ps_fld (pv 0) (pe_callTy call_tuple_of (by rfl) T.tuple (by decide +kernel) (pa_cons (pv 1) pa_nil)) rfl)
      (pss_one (ps_fld (pv 0) (pe_callTy call_tuple_of (by rfl) T.tuple (by decide +kernel) (pa_cons (pv 2) pa_nil)) rfl))))))), ?rd⟩
    have I0 := IS.start bh bx hx
    refine ⟨v1, rfl, B, [d1], .non, I0.bh, .cons r1 .nil, ⟨d1, c, rfl, hd1, O.l1, O.l2, O.tr, rfl⟩, fun v B1 H1 s1 rn => ?_⟩
    have I1 := I0.step s1
    cases rn
    refine ⟨.non, rfl, rfl, _, rfl, ?_⟩
    refine iteF ?_
    refine ⟨v2, rfl, B1, [d2], .non, I1.bh, .cons (r2.up s1.eb) .nil, ⟨d2, ch, rfl, hd2, O.l3, O.asc, rfl⟩, fun v B2 H2 s2 rn => ?_⟩
    have I2 := I1.step s2
    cases rn
    refine ⟨.non, rfl, rfl, _, rfl, ?_⟩
    refine iteF ?_
    show sFld K (tVar 0) (tCB (rTupOf K) (tCons (tVar 1) tNil)) "cycle" { nx := sFld K (tVar 0) (tCB (rTupOf K) (tCons (tVar 2) tNil)) "changes" { nx := fun _ H' => Q .non H', rt := Q }, rt := Q } [some (.ref x), some v1, some v2, some .non] H2
    unfold sFld
    refine raw_tupE (σ := [some (.ref x), some v1, some v2, some .non]) (i := 1) (v := v1) rfl I2.bh (r1.up (s1.eb.trans s2.eb)) hd1 fun w1 B3 H3 s3 rw1 => ?_
    have I3 := I2.step s3
    refine ⟨.ref x, rfl, x, C, dx, [], rfl, I3.hx, T.cl, T.nCy, (by show 0 < 1000; decide), ?_⟩
    have I4 := I3.set (o' := .ins C dx (putF "cycle" w1 []))
    show sFld K (tVar 0) (tCB (rTupOf K) (tCons (tVar 2) tNil)) "changes" { nx := fun _ H' => Q .non H', rt := Q } [some (.ref x), some v1, some v2, some .non] _
    unfold sFld
    refine raw_tupE (σ := [some (.ref x), some v1, some v2, some .non]) (i := 2) (v := v2) rfl I4.bh (r2.up ((s1.eb.trans s2.eb).trans s3.eb)) hd2 fun w2 B5 H5 s5 rw2 => ?_
    have I5 := I4.step s5
    refine ⟨.ref x, rfl, x, C, dx, _, rfl, I5.hx, T.cl, T.nCh, (by show 1 < 1000; decide), ?_⟩
    have I6 := I5.set (o' := .ins C dx (putF "changes" w2 (putF "cycle" w1 [])))
    have e : (HO.ins C dx (putF "changes" w2 (putF "cycle" w1 []))) = insC C dx w1 w2 := by rw [put2]
    rw [e] at I6
    have z := k _ _ w1 w2 I6 (rw1.up s5.eb) rw2
    show Q .non (upd H5 x (.ins C dx (putF "changes" w2 (putF "cycle" w1 []))))
    rw [e]
    exact z
theorem kb_init (F : FnI K f fd) : KBn K fd ["self", "cycle", "changes"] 2 ["changes"] (fun us ws => us ++ ws) (fun vs zs => vs ++ zs) := by
  obtain ⟨oc, od, dV, kV, doc, pm, an, cdv, ct, osl, rfl, lk, hcd, hD, hK⟩ := F.ex
  rcases hD with ⟨_, rfl⟩ | ⟨e, _⟩
  · exact ⟨fun s us ws X l1 l2 => match us, ws, l1, l2 with | [a, b], [c], _, _ => .of_eq rfl, fun r1 r2 => r1.append r2⟩
  · exact absurd rfl e
/-- a Calendar of two values -/
theorem make_go {c : Ly.Ctx} {C : Addr} {B2 H2 : Hp} {n : Nat} {v1 v2 : V} {d1 d2 : Da} {cy : List Bool} {ch : Chs} {E : XK} {Q : VK} (bh : Evl.Ex B2 H2) (jn : c.J n H2) (r1 : Rep c.K B2 v1 d1) (r2 : Rep c.K B2 v2 d2) (hd1 : d1.its = some (cy.map .bl)) (hd2 : d2.its = some (ch.map chD)) (O : CalOk cy ch)
    (q : ∀ v B3 H3, Step c B2 H2 B3 H3 → c.J n H3 → Rep c.K B3 v (calD C cy ch) → Q v H3) {x dx : Addr} (hx : H2 x = none) (hdx : H2 dx = none) (ne : dx ≠ x) : spInit c.K C [.ref x, v1, v2] (upd (upd H2 dx (.own x)) x (.ins C dx [])) (fun v H3 => v = .non ∧ Q (.ref x) H3) E := by
  have bx : B2 x = none := Evl.fresh_back bh hx
  have bd : B2 dx = none := Evl.fresh_back bh hdx
  refine ⟨x, dx, v1, v2, B2, d1, d2, cy, ch, rfl, upd_same, fun a o e => ?_, bx, r1, r2, hd1, hd2, O, fun Bi Hi w1 w2 I R1 R2 => ⟨rfl, ?_⟩⟩
  · have n1 : a ≠ x := fun z => by rw [z, bx] at e; cases e
    have n2 : a ≠ dx := fun z => by rw [z, bd] at e; cases e
    rw [upd_ne n1, upd_ne n2]
    exact bh _ _ e
  have keep : ∀ a o, H2 a = some o → Hi a = some o := fun a o e => by
    have n1 : a ≠ x := fun z => by rw [z, hx] at e; cases e
    have n2 : a ≠ dx := fun z => by rw [z, hdx] at e; cases e
    refine I.eh a o n1 ?_
    rw [upd_ne n1, upd_ne n2]
    exact e
  have e3 : Evl.Ex Bi (upd Bi x (insC C dx w1 w2)) := Evl.Ex.new I.bx
  have st : Step c B2 H2 (upd Bi x (insC C dx w1 w2)) Hi := by
    refine ⟨I.eb.trans e3, fun a o e => ?_, fun a o _ e => keep a o e, fun a b1 b2 => ?_⟩
    · by_cases z : a = x
      · rw [z, upd_same] at e
        rw [z, I.hx]
        exact e
      · rw [upd_ne z] at e
        exact I.bh _ _ e
    · have n1 : a ≠ x := fun z => b2 (by rw [z]; exact hx)
      rw [upd_ne n1]
      refine I.fr a n1 b1 ?_
      have n2 : a ≠ dx := fun z => b2 (by rw [z]; exact hdx)
      rw [upd_ne n1, upd_ne n2]
      exact b2
  refine q (.ref x) _ Hi st (fun p f => ?_) (.ob upd_same (.cons (R1.up e3) (.cons (R2.up e3) .nil)))
  obtain ⟨a, b, k, h, r⟩ := jn p f
  exact ⟨a, b, k, keep _ _ h, r⟩
theorem d_make {c : Ly.Ctx} {ρ : List Cell} {te tu : TE} {C : Addr} {d1 d2 : Da} {cy : List Bool} {ch : Chs} (h1 : EvD c te ρ d1) (h2 : EvD c tu ρ d2) (hd1 : d1.its = some (cy.map .bl)) (hd2 : d2.its = some (ch.map chD)) (O : CalOk cy ch) :
    EvD c (tMakeK C 1 1 (spInit c.K C) (fun vs zs => vs ++ zs) E0 (tCons te tNil) (tCons tu tNil)) ρ (calD C cy ch) := fun B H σ n G Q q =>
  h1 B H σ n G _ fun v1 B1 H1 s1 j1 r1 => h2 B1 H1 σ n (G.step s1 j1) _ fun v2 B2 H2 s2 j2 r2 => ⟨rfl, rfl, fun x dx hx hdx ne =>
    make_go s2.bh j2 (r1.up s2.eb) r2 hd1 hd2 O (fun v B3 H3 st j3 r => q v B3 H3 ((s1.trans (jnF j1) s2).trans (jnF j2) st) j3 r) hx hdx ne⟩
end

end Ca


set_option Elab.async false
set_option autoImplicit false
set_option linter.all false
set_option maxRecDepth 100000
set_option maxHeartbeats 4000000
/-! == and != by an own __eq__ that tells a bool, whatever it tells; the class has no own __ne__. -/
namespace Ly
open PySem PySem.Spec PyProof.Rows L2 Evl
def rOwnEq (K : PySem.W.Frag) (C : Addr) (sp : Sp) : R2 := fun x y H Q => ∃ (a dx : Addr) (fs : List (Str × V)) (t : Value), x = .ref a ∧ H a = some (.ins C dx fs) ∧ TyX K H y t ∧ PySem.W.notFirst K C t = true ∧ sp [x, y] H (fun v H' => ∃ b : Bool, v = .bl b ∧ Q (.bl b) H') E0
def rOwnNe (C : Addr) (sp : Sp) : R2 := fun x y H Q => ∃ (a b dx dy : Addr) (fs gs : List (Str × V)), x = .ref a ∧ y = .ref b ∧ H a = some (.ins C dx fs) ∧ H b = some (.ins C dy gs) ∧ sp [x, y] H (fun v H' => ∃ c : Bool, v = .bl c ∧ Q (.bl (!c)) H') E0
theorem env_in {X : Cx} {A : Around} {pins : List (Addr × Obj)} {σ : L2.St} {H : Hp} {s : Shared} (I : Inv X pins σ H s) (hf : A.frames = X.A.frames) : Env0 X.prog X.w X.K X.mg X.base A X.stack s H := by
  have e := I.env0
  exact ⟨by rw [hf]; exact e.frames, e.mod, e.bs, e.bsz, e.funs, e.frf, e.hok, e.bare⟩
section
variable {X : Cx} {k : Nat} {C f : Addr} {fd : FuncData} {ps : List Str} {sp : Sp}
/-- the call of the own __eq__ -/
theorem run_eq {A : Around} {pins : List (Addr × Obj)} {σ : L2.St} {H : Hp} {s : Shared} {x y : V} {u v : Value} {Q : VK} {R : Value → Shared → Prop} (F : FnOk X.prog X.w X.K X.mg X.base CX0 k f fd ps sp) (hb : Binds X.K fd ps []) (hr : Room k A) (hf : A.frames = X.A.frames)
    (I : Inv X pins σ H s) (rx : RelV x u) (ry : RelV y v) (hsp : sp [x, y] H Q E0) (q : ∀ z w H' s', Inv X pins σ H' s' → RelV z w → Q z H' → R w s') : wpAny (model X.prog X.w) A (call (.ref f) [u, v]) R X.xe s := by
  have hl := F.len _ _ _ _ hsp
  have r2 : Vals [x, y] [u, v] := .cons rx (.cons ry .nil)
  refine wpAny_call (codeAny_mono (F.run A X.stack s H ⟨[u, v], []⟩ [u, v] [x, y] _ E0 hr (env_in I hf) (by
    have := hb s [u, v] I.kIn (by simpa using hl)
    simpa using this) r2 hsp) fun r s' hq => ?_)
  cases r with
  | error e => exact (pass0 (X := X)) pins σ H s e s' I hq
  | ok fl =>
    cases fl with
    | ret w =>
      obtain ⟨z, H', I', rz, ez⟩ := I.after hq
      exact q z w H' s' I' rz ez
    | next => exact False.elim hq
    | brk => exact False.elim hq
    | cont => exact False.elim hq
theorem op_ownEq (F : FnOk X.prog X.w X.K X.mg X.base CX0 k f fd ps sp) (hs : PySem.W.findIn X.K (.ref C) "__eq__" = some (some (.ref f))) (hf : PySem.W.isFn X.K (.ref f) = true) (hb : Binds X.K fd ps []) (hr : Room k X.A) : OpR X (compareOp .Eq) (rOwnEq X.K C sp) := by
  intro pins s σ H x y v u Q I rx ry hq
  obtain ⟨a, dx, fs, t, rfl, ha, ty, hn, hsp⟩ := hq
  cases rx
  obtain ⟨mA, J, _⟩ := ins_get I.hok ha
  obtain ⟨od, J, _⟩ := J.look
  obtain ⟨m, hF⟩ := I.fr
  obtain ⟨P, Z, p, _⟩ := kit_of I ry ty
  show wpAny (model X.prog X.w) X.A (richCompare .Eq (.ref a) u) (EP X pins σ Q) X.xe s
  refine PySem.W.cmp_K (op := .Eq) (tb := t) hr.units0 hF I.ok.mod.kin J (Z.ty _ _ I.kIn p) hn hs hf ?_
  refine run_eq (x := .ref a) (y := y) F hb hr rfl I rfl ry hsp fun z w H' s' I' rz ⟨b, ez, qz⟩ => ?_
  subst ez
  cases rz
  exact ⟨.bl b, H', I', rfl, qz⟩
/-- the class has an own __eq__ at f, and no __ne__ but object's -/
structure OwnNe (K : PySem.W.Frag) (C f : Addr) : Prop where
  ex : ∃ (nm q : Str) (N : Addr) (bs : List Value) (hd : Bool) (sn : List Str) (sub : List Value) (ab : Bool) (col : Option Bool) (dd : Option Addr) (k0 k1 k2 k3 k5 : Option Value) (newId : String) (o of : Obj) (es : Array DictEntry) (ep : Nat),
    K.lookup C = some (excClassObj nm q C N bs [.type "object"] hd sn sub ab col dd k0 k1 k2 k3 k5 newId) ∧ K.lookup N = some o ∧ o.data = .dict es ep ∧ StrKeys es ∧ nsFind es "__eq__" = some (.ref f) ∧ nsFind es "__ne__" = none ∧ K.lookup f = some of ∧ of.cls = .type "function"
theorem op_ownNe (F : FnOk X.prog X.w X.K X.mg X.base CX0 k f fd ps sp) (N : OwnNe X.K C f) (hb : Binds X.K fd ps []) (hr : Room (k + 1) X.A) : OpR X (compareOp .NotEq) (rOwnNe C sp) := by
  intro pins s σ H x y v u Q I rx ry hq
  obtain ⟨a, b, dx, dy, fs, gs, rfl, rfl, ha, hb2, hsp⟩ := hq
  cases rx
  cases ry
  obtain ⟨nm, q, Nn, bs, hd, sn, sub, ab, col, dd, k0, k1, k2, k3, k5, newId, o, of, es, ep, e1, e2, e3, e4, e5, e6, e7, e8⟩ := N.ex
  obtain ⟨mA, ⟨J1, J2, J3⟩, _⟩ := ins_get I.hok ha
  obtain ⟨mB, ⟨L1, L2, L3⟩, _⟩ := ins_get I.hok hb2
  have O : s.heap.OwnEqNoNe a C f "object" [.type "object"] := ⟨_, of, nm, q, Nn, bs, hd, sn, sub, ab, col, dd, k0, k1, k2, k3, k5, newId, nsFind es, _, J1, rfl, I.kIn _ _ e1, ⟨o, es, ep, I.kIn _ _ e2, e3, e4, fun _ => rfl⟩, e5, I.kIn _ _ e7, e8, PySem.F.mro_object, PySem.F.slot_object_eq.lookup, e6⟩
  have un : X.A.units + 1 < cLine := by
    have := hr.un
    omega
  obtain ⟨hh, g, d, t, os⟩ := s
  refine compareOp_ne_ownEq PySem.F.cmp_object O L1 rfl un ?_
  refine run_eq (x := .ref a) (y := .ref b) F hb hr.in1 rfl I rfl rfl hsp fun z w H' s' I' rz ⟨c, ez, qz⟩ => ?_
  subst ez
  cases rz
  exact ⟨c, rfl, .bl (!c), H', I', rfl, qz⟩
end
/-! ### what is asked of the class -/
def fnB (K : PySem.W.Frag) (f : Addr) : Bool := match K.lookup f with
  | some o => decide (o.cls = .type "function")
  | _ => false
def nsB (K : PySem.W.Frag) (N f : Addr) : Bool := match K.lookup N with
  | some ⟨_, _, .dict es _, _⟩ => (es.toList.all fun e => match e.key with
      | .str _ _ => true
      | _ => false) && (decide (nsFind es "__eq__" = some (.ref f)) && decide (nsFind es "__ne__" = none))
  | _ => false
def clNeB (K : PySem.W.Frag) (C f : Addr) : Bool := match K.lookup C with
  | some ⟨c, _, .cls cd, sl⟩ => decide (c = .type "type") && (match cd.mro, sl.toList with
    | .ref D :: tl, [_, _, _, _, some (.builtin _), _] => decide (D = C) && (decide (tl = [.type "object"]) && (!cd.hasDel && nsB K cd.ns f))
    | _, _ => false)
  | _ => false
def ownNeB (K : PySem.W.Frag) (C f : Addr) : Bool := clNeB K C f && fnB K f
theorem band {a b : Bool} (h : (a && b) = true) : a = true ∧ b = true := Bool.and_eq_true_iff.mp h
theorem nsB_ok {K : PySem.W.Frag} {N f : Addr} (h : nsB K N f = true) : ∃ (o : Obj) (es : Array DictEntry) (ep : Nat), K.lookup N = some o ∧ o.data = .dict es ep ∧ StrKeys es ∧ nsFind es "__eq__" = some (.ref f) ∧ nsFind es "__ne__" = none := by
  unfold nsB at h
  split at h
  · rename_i oc od es ep sl hN
    obtain ⟨h8, h⟩ := band h
    obtain ⟨h9, h10⟩ := band h
    refine ⟨_, es, ep, hN, rfl, fun e he => ?_, of_decide_eq_true h9, of_decide_eq_true h10⟩
    have z := List.all_eq_true.mp h8 e (by simpa using he)
    split at z
    · rename_i x t q
      exact ⟨x, t, q⟩
    · cases z
  · cases h
theorem ownNeB_ok {K : PySem.W.Frag} {C f : Addr} (h : ownNeB K C f = true) : OwnNe K C f := by
  obtain ⟨h, hF⟩ := band h
  obtain ⟨of, hf1, hf2⟩ : ∃ of, K.lookup f = some of ∧ of.cls = .type "function" := by
    unfold fnB at hF
    split at hF
    · rename_i o ho
      exact ⟨o, ho, of_decide_eq_true hF⟩
    · cases hF
  unfold clNeB at h
  split at h
  · rename_i c dd cd sl ho
    obtain ⟨h0, h⟩ := band h
    have g0 : c = Value.type "type" := of_decide_eq_true h0
    split at h
    · rename_i D tl k0 k1 k2 k3 n k5 hm hs
      obtain ⟨h1, h⟩ := band h
      obtain ⟨h2, h⟩ := band h
      obtain ⟨h3, h4⟩ := band h
      have g1 : D = C := of_decide_eq_true h1
      have g2 : tl = [.type "object"] := of_decide_eq_true h2
      subst g1
      subst g2
      subst g0
      obtain ⟨nm, bs, mro, ns, qn, hd, sn, sub, ab, col, del⟩ := cd
      dsimp only at hm h3 h4
      subst hm
      have h6 : del = false := by
        cases del with
        | true => cases h3
        | false => rfl
      subst h6
      have h7 : sl = #[k0, k1, k2, k3, some (.builtin n), k5] := by
        obtain ⟨l⟩ := sl
        simp only at hs
        rw [hs]
      subst h7
      obtain ⟨o, es, ep, q1, q2, q3, q4, q5⟩ := nsB_ok h4
      exact ⟨nm, qn, ns, bs, hd, sn, sub, ab, col, dd, k0, k1, k2, k3, k5, n, o, of, es, ep, ho, q1, q2, q3, q4, q5, hf1, hf2⟩
    · cases h
  · cases h
/-! ### over data -/
section
variable {c : Ctx} {ρ : List Cell} {ta tb : TE} {C : Addr} {fs gs : List (Str × Da)} {d : Da}
theorem d_ownEq {S : List Da → Da → Prop} {b : Bool} {t : String} (ha : EvD c ta ρ (.ob C fs)) (hb : EvD c tb ρ d) (hd : d.tyn = some t) (hn : PySem.W.notFirst c.K C (.type t) = true) (hS : S [.ob C fs, d] (.bl b)) : EvD c (tOp (rOwnEq c.K C (spR c.K S)) ta tb) ρ (.bl b) := d_op ha hb fun B H v w n bh jn rv rw Q q => by
  have rv0 := rv
  cases rv with
  | ob hx hr =>
    exact ⟨_, _, _, .type t, rfl, bh _ _ hx, rw.tyx bh hd, hn, B, [.ob C fs, d], .bl b, bh, .cons rv0 (.cons rw .nil), hS, fun v B2 H2 s r => by
      cases r
      exact ⟨b, rfl, q _ B2 H2 s.step (J.up jn s.eh) (.bl b)⟩⟩
theorem d_ownEqO {S : List Da → Da → Prop} {b : Bool} (ty : ∀ (H : Hp) (a dx : Addr) (fs : List (Str × V)), H a = some (.ins C dx fs) → TyX c.K H (.ref a) (.ref C)) (ha : EvD c ta ρ (.ob C fs)) (hb : EvD c tb ρ (.ob C gs)) (hS : S [.ob C fs, .ob C gs] (.bl b)) : EvD c (tOp (rOwnEq c.K C (spR c.K S)) ta tb) ρ (.bl b) := d_op ha hb fun B H v w n bh jn rv rw Q q => by
  have rv0 := rv
  have rw0 := rw
  cases rv with
  | ob hx hr =>
    cases rw with
    | ob hy hr2 =>
      exact ⟨_, _, _, .ref C, rfl, bh _ _ hx, ty _ _ _ _ (bh _ _ hy), by simp [PySem.W.notFirst], B, [.ob C fs, .ob C gs], .bl b, bh, .cons rv0 (.cons rw0 .nil), hS, fun v B2 H2 s r => by
        cases r
        exact ⟨b, rfl, q _ B2 H2 s.step (J.up jn s.eh) (.bl b)⟩⟩
theorem d_ownNe {S : List Da → Da → Prop} {b : Bool} (ha : EvD c ta ρ (.ob C fs)) (hb : EvD c tb ρ (.ob C gs)) (hS : S [.ob C fs, .ob C gs] (.bl b)) : EvD c (tOp (rOwnNe C (spR c.K S)) ta tb) ρ (.bl (!b)) := d_op ha hb fun B H v w n bh jn rv rw Q q => by
  have rv0 := rv
  have rw0 := rw
  cases rv with
  | ob hx hr =>
    cases rw with
    | ob hy hr2 =>
      exact ⟨_, _, _, _, _, _, rfl, rfl, bh _ _ hx, bh _ _ hy, B, [.ob C fs, .ob C gs], .bl b, bh, .cons rv0 (.cons rw0 .nil), hS, fun v B2 H2 s r => by
        cases r
        exact ⟨b, rfl, q _ B2 H2 s.step (J.up jn s.eh) (.bl (!b))⟩⟩
end
end Ly


set_option Elab.async false
set_option autoImplicit false
set_option linter.all false
set_option maxRecDepth 100000
set_option maxHeartbeats 4000000
namespace Ca
open PySem PySem.Spec PyProof.Rows L2 Cmb Ly Cal
/-! ### == and != of Calendars, and how else they are made -/
structure TxtE (K : PySem.W.Frag) (C fE : Addr) : Prop where
  at_ : PySem.W.findIn K (.ref C) "__eq__" = some (some (.ref fE))
  fn : PySem.W.isFn K (.ref fE) = true
  ne : OwnNe K C fE
  nT : PySem.W.notFirst K C (.type "tuple") = true
  nN : PySem.W.notFirst K C (.type "NoneType") = true
  kT : PySem.W.kitOne K (.type "tuple") (.ref C) = some false
  kN : PySem.W.kitOne K (.type "NoneType") (.ref C) = some false
def eqCB (cy : List Bool) (ch : Chs) (cy2 : List Bool) (ch2 : Chs) : Bool := PyData.eqv (cycP cy) (cycP cy2) && PyData.eqv (chsP ch) (chsP ch2)
def SEq (K : PySem.W.Frag) (C : Addr) : List Da → Da → Prop := fun ds e => (∃ (cy : List Bool) (ch : Chs) (cy2 : List Bool) (ch2 : Chs), ds = [calD C cy ch, calD C cy2 ch2] ∧ e = .bl (eqCB cy ch cy2 ch2)) ∨ ∃ (cy : List Bool) (ch : Chs) (d : Da) (t : String), ds = [calD C cy ch, d] ∧ d.tyn = some t ∧ PySem.W.kitOne K (.type t) (.ref C) = some false ∧ e = .bl false
theorem eqvAll_refl {α : Type} {g : α → PyData} (h : ∀ a, PyData.eqv (g a) (g a) = true) : ∀ l : List α, PyData.eqvAll (l.map g) (l.map g) = true
  | [] => by
    show PyData.eqvAll [] [] = true
    simp [PyData.eqvAll]
  | a :: l => by
    show PyData.eqvAll (g a :: l.map g) (g a :: l.map g) = true
    simp only [PyData.eqvAll, h a, eqvAll_refl h l, Bool.and_self]
theorem eqvAll_len {α β : Type} {g : α → PyData} {g2 : β → PyData} : ∀ {l : List α} {m : List β}, l.length ≠ m.length → PyData.eqvAll (l.map g) (m.map g2) = false
  | [], [], h => absurd rfl h
  | [], b :: m, _ => by
    show PyData.eqvAll [] (g2 b :: m.map g2) = false
    simp [PyData.eqvAll]
  | a :: l, [], _ => by
    show PyData.eqvAll (g a :: l.map g) [] = false
    simp [PyData.eqvAll]
  | a :: l, b :: m, h => by
    have ih := eqvAll_len (g := g) (g2 := g2) (l := l) (m := m) (fun z => h (by rw [List.length_cons, List.length_cons, z]))
    show PyData.eqvAll (g a :: l.map g) (g2 b :: m.map g2) = false
    simp only [PyData.eqvAll, ih, Bool.and_false]
theorem cyc_refl (c : List Bool) : PyData.eqv (cycP c) (cycP c) = true := by
  unfold cycP
  simp only [PyData.eqv]
  exact eqvAll_refl (fun b => by cases b <;> simp [PyData.eqv]) c
theorem ch_refl (q : Int × Bool) : PyData.eqv (chP q) (chP q) = true := by
  unfold chP
  simp [PyData.eqv, PyData.eqvAll]
theorem chs_refl (ch : Chs) : PyData.eqv (chsP ch) (chsP ch) = true := by
  unfold chsP
  simp only [PyData.eqv]
  exact eqvAll_refl ch_refl ch
theorem eqCB_refl (cy : List Bool) (ch : Chs) : eqCB cy ch cy ch = true := by
  unfold eqCB
  rw [cyc_refl, chs_refl]
  rfl
theorem eqCB_len {cy cy2 : List Bool} {ch ch2 : Chs} (h : cy.length ≠ cy2.length ∨ ch.length ≠ ch2.length) : eqCB cy ch cy2 ch2 = false := by
  unfold eqCB
  rcases h with h | h
  · have : PyData.eqv (cycP cy) (cycP cy2) = false := by
      unfold cycP
      simp only [PyData.eqv]
      exact eqvAll_len h
    rw [this]
    rfl
  · have : PyData.eqv (chsP ch) (chsP ch2) = false := by
      unfold chsP
      simp only [PyData.eqv]
      exact eqvAll_len h
    rw [this, Bool.and_false]
section
variable {P : Program} {w : World} {K : PySem.W.Frag} {mg : Str → Option Value} {base : Heap} {f : Addr} {fd : FuncData} {C fE : Addr}
theorem d_isOT {c : Ly.Ctx} {ρ : List Cell} {te : TE} {d : Da} {C : Addr} {t : String} {b : Bool} (h : EvD c te ρ d) (ht : d.tyn = some t) (hk : PySem.W.kitOne c.K (.type t) (.ref C) = some b) : EvD c (tCB (rIsi c.K) (tCons te (tCons (tC (.ref C)) tNil))) ρ (.bl b) := fun B H σ n G Q q =>
  h B H σ n G _ fun v B1 H1 s j r => ⟨_, .ref C, .type t, .ref C, b, rfl, .own C, r.tyx s.bh ht, hk, q _ B1 H1 s j (.bl b)⟩
abbrev FnEq (K : PySem.W.Frag) (f : Addr) (fd : FuncData) : Prop := FunD K "__eq__" "Calendar.__eq__" (defArgs (inClass (top 14) 1)) (defBody (inClass (top 14) 1)) (defScope (inClass (top 14) 1)) [] [] f fd
theorem sc_eq : FnScope ["self", "other"] ["self", "other"] (defScope (inClass (top 14) 1)) := ⟨rfl, rfl, rfl, by decide +kernel, rfl, by decide +kernel, by decide +kernel⟩
theorem ok_eq (F : FnEq K f fd) (T : Txt K mg C) : FnOk P w K mg base CX0 1 f fd ["self", "other"] (spR K (SEq K C)) := by
  have nd := sc_eq.nd
  refine F.ok sc_eq (fun vs H Q E h => ?_) (fun cdv A outer s H vs Q E hr h => ?_)
  · obtain ⟨B, ds, e, _, rv, hS, _⟩ := h
    rcases hS with ⟨cy, ch, cy2, ch2, rfl, _⟩ | ⟨cy, ch, d, t, rfl, _⟩
    · exact rv.len
    · exact rv.len
  · refine ⟨_, PSs.nox (pss_one (ps_ret (pe_and (pe_callB call_isi (by rfl) T.isinstance (by decide +kernel) (pa_cons (pv 1) (pa_cons (pe_glob (v := .ref C) (by rfl) T.Calendar rfl) pa_nil))) (pe_and (pe_cmpR (op_eqD hr.units) (pe_fld (pv 0) rfl) (pe_fld (pv 1) rfl) (nomark _)) (pe_one (pe_cmpR (op_eqD hr.units) (pe_fld (pv 0) rfl) (pe_fld (pv 1) rfl) (nomark _))))))), ?rd⟩
    refine run_R h (fun ds e hS => ?_) fun B0 H0 ds e hS => ?_
    · rcases hS with ⟨cy, ch, cy2, ch2, e1, _⟩ | ⟨cy, ch, d, t, e1, _⟩
      · rw [e1]; show 2 ≤ 2; decide
      · rw [e1]; show 2 ≤ 2; decide
    · rcases hS with ⟨cy, ch, cy2, ch2, e1, e2⟩ | ⟨cy, ch, d, t, e1, ht, hk, e2⟩
      · subst e1
        subst e2
        exact s_ret ((d_and (d_isO (mg := mg) T (d_var rfl)) fun _ => d_and (d_eqD (d_cyc (mg := mg) T (d_var rfl)) (d_cyc (mg := mg) T (d_var rfl)) (cyc_py cy) (cyc_py cy2) (shaped_cyc cy) (shaped_cyc cy2)) fun _ => d_eqD (d_chs (mg := mg) T (d_var rfl)) (d_chs (mg := mg) T (d_var rfl)) (chs_py ch) (chs_py ch2) (shaped_chs ch) (shaped_chs ch2)).eq rfl) rfl
      · subst e1
        subst e2
        exact s_ret (d_and (b := false) (b' := false) (d_isOT (d_var rfl) ht hk) fun z => by cases z) rfl
/-! Calendars by other ways -/
def gKw {α : Type} : List α → List α → List α := fun us ws => match ws with
  | [a, b] => us ++ [b, a]
  | _ => us ++ ws
theorem kb_initKw (F : FnI K f fd) : KBn K fd ["self", "cycle", "changes"] 1 ["changes", "cycle"] gKw gKw := by
  obtain ⟨oc, od, dV, kV, doc, pm, an, cdv, ct, osl, rfl, lk, hcd, hD, hK⟩ := F.ex
  rcases hD with ⟨_, rfl⟩ | ⟨e, _⟩
  · exact ⟨fun s us ws X l1 l2 => match us, ws, l1, l2 with | [a], [b, c], _, _ => .of_eq rfl, fun r1 r2 => by
      cases r2 with
      | nil => exact r1.append .nil
      | cons a r2 =>
        cases r2 with
        | nil => exact r1.append (.cons a .nil)
        | cons b r2 =>
          cases r2 with
          | nil => exact r1.append (.cons b (.cons a .nil))
          | cons c r2 => exact r1.append (.cons a (.cons b (.cons c r2)))⟩
  · exact absurd rfl e
theorem d_makeKw {c : Ly.Ctx} {ρ : List Cell} {te tu : TE} {C : Addr} {d1 d2 : Da} {cy : List Bool} {ch : Chs} (h2 : EvD c tu ρ d2) (h1 : EvD c te ρ d1) (hd1 : d1.its = some (cy.map .bl)) (hd2 : d2.its = some (ch.map chD)) (O : CalOk cy ch) :
    EvD c (tMakeK C 0 2 (spInit c.K C) gKw E0 tNil (tCons tu (tCons te tNil))) ρ (calD C cy ch) := fun B H σ n G Q q =>
  h2 B H σ n G _ fun v2 B1 H1 s1 j1 r2 => h1 B1 H1 σ n (G.step s1 j1) _ fun v1 B2 H2 s2 j2 r1 => ⟨rfl, rfl, fun x dx hx hdx ne =>
    make_go s2.bh j2 r1 (r2.up s2.eb) hd1 hd2 O (fun v B3 H3 st j3 r => q v B3 H3 ((s1.trans (jnF j1) s2).trans (jnF j2) st) j3 r) hx hdx ne⟩
/-- the changes left out: the empty tuple at Tn -/
theorem kb_init0 {Tn : Addr} (F : FunD K "__init__" "Calendar.__init__" (defArgs (inClass (top 14) 0)) (defBody (inClass (top 14) 0)) (defScope (inClass (top 14) 0)) [] [("changes", .ref Tn)] f fd) : ∃ mv : List Value, KBn K fd ["self", "cycle", "changes"] 2 [] (fun us ws => us ++ mv ++ ws) (fun vs zs => vs ++ [.ref Tn] ++ zs) :=
  F.kbinds0 2 [] [("changes", .ref Tn)] (fun us mv ws => us ++ mv ++ ws) (by simp) (fun q hq => hq) (fun r1 r2 r3 => (r1.append r2).append r3) fun D doc pm an cdv ct us mv ws l1 l2 l3 => match us, mv, ws, l1, l2, l3 with
    | [a, b], [c], [], _, _, _ => ⟨_, _, _, _, _, _, rfl, rfl, rfl⟩
end

end Ca


set_option Elab.async false
set_option autoImplicit false
set_option linter.all false
set_option maxRecDepth 100000
set_option maxHeartbeats 4000000
/-! Calendars: what is found slot by slot in a list of the slots that work. -/
namespace Cal
def cntN (g : Nat → Bool) (n : Nat) : Nat := ((List.range n).filter g).length
theorem cntN_succ (g : Nat → Bool) (n : Nat) : cntN g (n + 1) = cntN g n + if g n = true then 1 else 0 := by
  unfold cntN
  rw [List.range_succ, List.filter_append, List.length_append]
  congr 1
  by_cases h : g n = true
  · rw [if_pos h, List.filter_cons_of_pos h]
    rfl
  · rw [if_neg h, List.filter_cons_of_neg h]
    rfl
theorem cnt_cntN (f : Int → Bool) : ∀ n : Nat, cnt f n = (cntN (fun k => f (k : Int)) n : Int)
  | 0 => rfl
  | n + 1 => by
    rw [cntN_succ]
    show cnt f n + b2 (f n) = _
    rw [cnt_cntN f n]
    cases f (n : Int) with
    | true => rfl
    | false => exact Int.add_zero _
theorem idx (g : Nat → Bool) : ∀ (N i : Nat), i < cntN g N → (((List.range N).filter g).getD i 0) < N ∧ g (((List.range N).filter g).getD i 0) = true ∧ cntN g (((List.range N).filter g).getD i 0) = i
  | 0, i, h => absurd h (Nat.not_lt_zero _)
  | N + 1, i, h => by
    rw [cntN_succ] at h
    rw [List.range_succ, List.filter_append]
    by_cases q : i < cntN g N
    · have e : (((List.range N).filter g) ++ List.filter g [N]).getD i 0 = ((List.range N).filter g).getD i 0 := by
        rw [List.getD_eq_getElem?_getD, List.getElem?_append_left q, ← List.getD_eq_getElem?_getD]
      rw [e]
      obtain ⟨h1, h2, h3⟩ := idx g N i q
      exact ⟨by omega, h2, h3⟩
    · by_cases w : g N = true
      · rw [if_pos w] at h
        have e0 : i = cntN g N := by omega
        have e : (((List.range N).filter g) ++ List.filter g [N]).getD i 0 = N := by
          rw [List.filter_cons_of_pos w, List.getD_eq_getElem?_getD, List.getElem?_append_right (by unfold cntN at e0; omega)]
          have : i - ((List.range N).filter g).length = 0 := by
            unfold cntN at e0
            omega
          rw [this]
          rfl
        rw [e]
        exact ⟨Nat.lt_succ_self _, w, e0.symm⟩
      · rw [if_neg w] at h
        omega
theorem cntN_from (F : Nat → Bool) (s : Nat) : ∀ j : Nat, cntN (fun k => F k && decide (s ≤ k)) (s + j) + cntN F s = cntN F (s + j)
  | 0 => by
    have z : ∀ m : Nat, m ≤ s → cntN (fun k => F k && decide (s ≤ k)) m = 0 := by
      intro m
      induction m with
      | zero => intro _; rfl
      | succ m ih =>
        intro h
        rw [cntN_succ, ih (by omega), if_neg]
        rw [decide_eq_false (by omega), Bool.and_false]
        decide
    rw [Nat.add_zero, z s (Nat.le_refl _), Nat.zero_add]
  | j + 1 => by
    have ih := cntN_from F s j
    rw [← Nat.add_assoc, cntN_succ, cntN_succ F]
    have e : (F (s + j) && decide (s ≤ s + j)) = F (s + j) := by
      rw [decide_eq_true (Nat.le_add_right _ _), Bool.and_true]
    rw [e]
    omega
theorem cntN_to (F : Nat → Bool) (s : Nat) : ∀ m : Nat, cntN (fun k => F k && decide (k < s)) m = cntN F (if m ≤ s then m else s)
  | 0 => by
    rw [if_pos (Nat.zero_le _)]
    rfl
  | m + 1 => by
    rw [cntN_succ, cntN_to F s m]
    by_cases h : m + 1 ≤ s
    · rw [if_pos h, if_pos (by omega), cntN_succ, decide_eq_true (show m < s by omega), Bool.and_true]
    · rw [if_neg h, decide_eq_false (show ¬ m < s by omega), Bool.and_false]
      by_cases q : m ≤ s
      · have : m = s := by omega
        rw [if_pos q, this]
        rfl
      · rw [if_neg q]
        rfl
/-! ### the list of all slots that work -/
def wkd (c : List Bool) (ch : Chs) (N : Nat) : List Int := ((List.range N).filter fun (k : Nat) => works c ch (k : Int)).map fun (k : Nat) => (k : Int)
def laterL (W : List Int) (s : Int) : List Int := W.filter fun x => decide (s ≤ x)
def earlyL (W : List Int) (s : Int) : List Int := W.filter fun x => decide (x < s)
theorem later_wkd (c : List Bool) (ch : Chs) (N s : Nat) : laterL (wkd c ch N) (s : Int) = ((List.range N).filter fun (k : Nat) => works c ch (k : Int) && decide (s ≤ k)).map fun (k : Nat) => (k : Int) := by
  unfold laterL wkd
  rw [List.filter_map, List.filter_filter]
  congr 1
  refine List.filter_congr fun k _ => ?_
  show (decide ((s : Int) ≤ (k : Int)) && works c ch (k : Int)) = _
  rw [Bool.and_comm]
  congr 1
  exact decide_eq_decide.mpr (by omega)
theorem early_wkd (c : List Bool) (ch : Chs) (N s : Nat) : earlyL (wkd c ch N) (s : Int) = ((List.range N).filter fun (k : Nat) => works c ch (k : Int) && decide (k < s)).map fun (k : Nat) => (k : Int) := by
  unfold earlyL wkd
  rw [List.filter_map, List.filter_filter]
  congr 1
  refine List.filter_congr fun k _ => ?_
  show (decide ((k : Int) < (s : Int)) && works c ch (k : Int)) = _
  rw [Bool.and_comm]
  congr 1
  exact decide_eq_decide.mpr (by omega)
theorem getD_cast (l : List Nat) (i : Nat) (h : i < l.length) : (l.map fun (k : Nat) => (k : Int)).getD i 0 = ((l.getD i 0 : Nat) : Int) := by
  rw [List.getD_eq_getElem?_getD, List.getElem?_map, List.getElem?_eq_getElem h, List.getD_eq_getElem?_getD, List.getElem?_eq_getElem h]
  rfl
/-- the slots that work, from a slot on: the i-th one -/
theorem later_at (c : List Bool) (ch : Chs) (N s i : Nat) (h : i < (laterL (wkd c ch N) (s : Int)).length) : ∃ m : Nat, (laterL (wkd c ch N) (s : Int)).getD i 0 = (m : Int) ∧ m < N ∧ works c ch (m : Int) = true ∧ cnt (works c ch) m = cnt (works c ch) s + (i : Int) := by
  rw [later_wkd] at h ⊢
  rw [List.length_map] at h
  obtain ⟨h1, h2, h3⟩ := idx _ N i h
  rw [getD_cast _ _ h]
  refine ⟨_, rfl, h1, ?_⟩
  generalize ((List.range N).filter fun (k : Nat) => works c ch (k : Int) && decide (s ≤ k)).getD i 0 = m at h1 h2 h3 ⊢
  obtain ⟨h4, h5⟩ := Bool.and_eq_true_iff.mp h2
  have h5 := of_decide_eq_true h5
  refine ⟨h4, ?_⟩
  have z := cntN_from (fun (k : Nat) => works c ch (k : Int)) s (m - s)
  rw [Nat.add_sub_cancel' h5, h3] at z
  rw [cnt_cntN, cnt_cntN]
  omega
theorem later_len (c : List Bool) (ch : Chs) (N s : Nat) (h : s ≤ N) : ((laterL (wkd c ch N) (s : Int)).length : Int) = cnt (works c ch) N - cnt (works c ch) s := by
  rw [later_wkd, List.length_map]
  have z := cntN_from (fun (k : Nat) => works c ch (k : Int)) s (N - s)
  rw [Nat.add_sub_cancel' h] at z
  rw [cnt_cntN, cnt_cntN]
  show (cntN _ N : Int) = _
  omega
theorem early_at (c : List Bool) (ch : Chs) (N s i : Nat) (h : i < (earlyL (wkd c ch N) (s : Int)).length) : ∃ m : Nat, (earlyL (wkd c ch N) (s : Int)).getD i 0 = (m : Int) ∧ m < s ∧ works c ch (m : Int) = true ∧ cnt (works c ch) m = (i : Int) := by
  rw [early_wkd] at h ⊢
  rw [List.length_map] at h
  obtain ⟨h1, h2, h3⟩ := idx _ N i h
  rw [getD_cast _ _ h]
  refine ⟨_, rfl, ?_⟩
  generalize ((List.range N).filter fun (k : Nat) => works c ch (k : Int) && decide (k < s)).getD i 0 = m at h1 h2 h3 ⊢
  obtain ⟨h4, h5⟩ := Bool.and_eq_true_iff.mp h2
  have h5 := of_decide_eq_true h5
  refine ⟨h5, h4, ?_⟩
  rw [cntN_to, if_pos (by omega)] at h3
  rw [cnt_cntN]
  omega
theorem early_len (c : List Bool) (ch : Chs) (N s : Nat) (h : s ≤ N) : ((earlyL (wkd c ch N) (s : Int)).length : Int) = cnt (works c ch) s := by
  rw [early_wkd, List.length_map]
  have z := cntN_to (fun (k : Nat) => works c ch (k : Int)) s N
  rw [cnt_cntN]
  show (cntN _ N : Int) = _
  rw [z]
  by_cases q : N ≤ s
  · rw [if_pos q, show N = s by omega]
  · rw [if_neg q]
/-! ### enough slots work -/
theorem rank_le (c : List Bool) (r : Int) : 0 ≤ rank c r ∧ rank c r ≤ ((places c).length : Int) := by
  unfold rank
  have := List.length_filter_le (fun p => decide (p < r)) (places c)
  omega
theorem far_many (c : List Bool) (hc : true ∈ c) (hl : c.length ≤ 14) : cnt (byC c) 560 - cnt (byC c) 49 ≥ 31 := by
  have hL : 0 < c.length := List.length_pos_of_mem hc
  have hP := places_pos hc
  have a1 := ahead_cnt c hL 560
  have a2 := ahead_cnt c hL 49
  rw [← a1, ← a2]
  unfold ahead
  have r1 := rank_le c ((560 : Nat) % (c.length : Int))
  have r2 := rank_le c ((49 : Nat) % (c.length : Int))
  generalize hP' : ((places c).length : Int) = P at *
  have hP1 : 1 ≤ P := by omega
  have key : ∀ L : Nat, 0 < L → L ≤ 14 → ((560 : Nat) : Int) / (L : Int) - ((49 : Nat) : Int) / (L : Int) - 1 ≥ 31 := by
    intro L h1 h2
    have : L = 1 ∨ L = 2 ∨ L = 3 ∨ L = 4 ∨ L = 5 ∨ L = 6 ∨ L = 7 ∨ L = 8 ∨ L = 9 ∨ L = 10 ∨ L = 11 ∨ L = 12 ∨ L = 13 ∨ L = 14 := by omega
    rcases this with e | e | e | e | e | e | e | e | e | e | e | e | e | e <;> subst e <;> decide
  have k := key c.length hL hl
  generalize ((560 : Nat) : Int) / (c.length : Int) = x at k ⊢
  generalize ((49 : Nat) : Int) / (c.length : Int) = y at k ⊢
  generalize rank c ((560 : Nat) % (c.length : Int)) = u at r1 ⊢
  generalize rank c ((49 : Nat) % (c.length : Int)) = v at r2 ⊢
  have m1 : x * P - y * P - P = (x - y - 1) * P := by
    rw [Int.sub_mul, Int.sub_mul, Int.one_mul]
  have m2 : (x - y - 1) * 1 ≤ (x - y - 1) * P := Int.mul_le_mul_of_nonneg_left hP1 (by omega)
  omega
theorem cnt_same {f g : Int → Bool} (a : Nat) (h : ∀ k : Nat, a ≤ k → f k = g k) : ∀ j : Nat, cnt f (a + j) - cnt f a = cnt g (a + j) - cnt g a
  | 0 => by
    rw [Nat.add_zero]
    omega
  | j + 1 => by
    have ih := cnt_same a h j
    have e := h (a + j) (Nat.le_add_right _ _)
    show cnt f (a + j) + b2 (f (a + j : Nat)) - cnt f a = cnt g (a + j) + b2 (g (a + j : Nat)) - cnt g a
    rw [e]
    omega
theorem many_later (c : List Bool) (ch : Chs) (hc : true ∈ c) (hl : c.length ≤ 14) (hb : ∀ q ∈ ch, q.1 ≤ 48) {s : Nat} (hs : s ≤ 49) : 31 ≤ (laterL (wkd c ch 560) (s : Int)).length := by
  have h1 := later_len c ch 560 s (by omega)
  have h2 := cnt_same (f := works c ch) (g := byC c) 49 (fun k hk => works_not c fun q hq z => by
    have := hb q hq
    omega) 511
  have h3 := far_many c hc hl
  have h4 := cnt_le (works c ch) hs
  have e : 49 + 511 = 560 := rfl
  rw [e] at h2
  omega
/-! ### the two functions, by the list -/
def lawEnd (W : List Int) (s w : Int) : Option Int := if w = 0 then some s else if (laterL W s).getD 0 0 = s then some ((laterL W s).getD (w - 1).toNat 0 + 1) else none
def lawLat (W : List Int) (s w : Int) : Option Int := if w = 0 then some s else if w ≤ ((earlyL W s).length : Int) then some ((earlyL W s).getD (((earlyL W s).length : Int) - w).toNat 0) else none
def endO (c : List Bool) (ch : Chs) (s w : Int) : Option Int := if w = 0 then some s else if works c ch s = true then some (slotB c ch 0 (wAhead c ch s + w - 1) + 1) else none
def latO (c : List Bool) (ch : Chs) (s w : Int) : Option Int := if w = 0 then some s else if wAhead c ch s - w < 0 then none else some (slotB c ch 0 (wAhead c ch s - w))
theorem slotB_is (c : List Bool) (hc : true ∈ c) {ch : Chs} (h : Asc (-1) ch) {a : Int} {m : Nat} (hw : works c ch (m : Int) = true) (hm : cnt (works c ch) m = a) : slotB c ch 0 a = (m : Int) := by
  have ha : 0 ≤ a := by
    rw [← hm]
    exact cnt_0 _ _
  obtain ⟨n, e, w, k⟩ := slotB_cnt c hc h ha
  rw [e, cnt_uniq (works c ch) w hw (by rw [k, hm])]
theorem end_law (c : List Bool) (ch : Chs) (hc : true ∈ c) (hl : c.length ≤ 14) (h : Asc (-1) ch) (hb : ∀ q ∈ ch, q.1 ≤ 48) {s w : Int} (s0 : 0 ≤ s) (s1 : s ≤ 49) (w0 : 0 ≤ w) (w1 : w ≤ 30) : endO c ch s w = lawEnd (wkd c ch 560) s w := by
  obtain ⟨s, rfl⟩ := Int.eq_ofNat_of_zero_le s0
  have hm := many_later c ch hc hl hb (s := s) (by omega)
  have hL : 0 < c.length := List.length_pos_of_mem hc
  unfold endO lawEnd
  by_cases z : w = 0
  · rw [if_pos z, if_pos z]
  rw [if_neg z, if_neg z]
  obtain ⟨m0, e0, _, f0, c0⟩ := later_at c ch 560 s 0 (by omega)
  have iff : (laterL (wkd c ch 560) (s : Int)).getD 0 0 = (s : Int) ↔ works c ch (s : Int) = true := by
    rw [e0]
    constructor
    · intro q
      rw [← q]
      exact f0
    · intro q
      rw [cnt_uniq (works c ch) f0 q (by rw [c0]; exact Int.add_zero _)]
  show (if works c ch (s : Int) = true then _ else _) = if (laterL (wkd c ch 560) (s : Int)).getD 0 0 = (s : Int) then _ else _
  by_cases q : works c ch (s : Int) = true
  · rw [if_pos q, if_pos (iff.mpr q)]
    obtain ⟨m, e, _, f, k⟩ := later_at c ch 560 s (w - 1).toNat (by omega)
    show some (slotB c ch 0 (wAhead c ch (s : Int) + w - 1) + 1) = some ((laterL (wkd c ch 560) (s : Int)).getD (w - 1).toNat 0 + 1)
    rw [e, slotB_is c hc h f]
    rw [k, wAhead_cnt c hL s (by decide) h]
    omega
  · rw [if_neg q, if_neg fun y => q (iff.mp y)]
theorem lat_law (c : List Bool) (ch : Chs) (hc : true ∈ c) (h : Asc (-1) ch) {s w : Int} (s0 : 0 ≤ s) (s1 : s ≤ 560) (w0 : 0 ≤ w) : latO c ch s w = lawLat (wkd c ch 560) s w := by
  obtain ⟨s, rfl⟩ := Int.eq_ofNat_of_zero_le s0
  have hL : 0 < c.length := List.length_pos_of_mem hc
  have hn := early_len c ch 560 s (by omega)
  have ha := wAhead_cnt c hL s (show (-1 : Int) ≤ -1 by decide) h
  unfold latO lawLat
  by_cases z : w = 0
  · rw [if_pos z, if_pos z]
  rw [if_neg z, if_neg z]
  show (if wAhead c ch (s : Int) - w < 0 then _ else _) = if w ≤ ((earlyL (wkd c ch 560) (s : Int)).length : Int) then _ else _
  by_cases q : wAhead c ch (s : Int) - w < 0
  · rw [if_pos q, if_neg (by omega)]
  · rw [if_neg q, if_pos (by omega)]
    obtain ⟨m, e, _, f, k⟩ := early_at c ch 560 s (((earlyL (wkd c ch 560) (s : Int)).length : Int) - w).toNat (by omega)
    show some (slotB c ch 0 (wAhead c ch (s : Int) - w)) = some ((earlyL (wkd c ch 560) (s : Int)).getD (((earlyL (wkd c ch 560) (s : Int)).length : Int) - w).toNat 0)
    rw [e, slotB_is c hc h f]
    rw [k]
    omega
end Cal


set_option Elab.async false
set_option autoImplicit false
set_option linter.all false
set_option maxRecDepth 100000
set_option maxHeartbeats 4000000
/-! Calendars: counts by whole cycles; where work ends, by counts. -/
namespace Cal
theorem take_range {α : Type} (l : List α) (d : α) {k : Nat} (h : k ≤ l.length) : l.take k = (List.range k).map fun i => l.getD i d := by
  refine List.ext_getElem? fun i => ?_
  by_cases q : i < k
  · rw [List.getElem?_take_of_lt q, List.getElem?_map, List.getElem?_range q, Option.map_some, List.getD_eq_getElem?_getD, List.getElem?_eq_getElem (by omega)]
    rfl
  · rw [List.getElem?_eq_none (by rw [List.length_take]; omega), List.getElem?_eq_none (by rw [List.length_map, List.length_range]; omega)]
theorem rank_take (c : List Bool) {k : Nat} (h : k ≤ c.length) : rank c (k : Int) = (((c.take k).filter fun b => b).length : Int) := by
  rw [rank_eq c h, take_range c false h, List.filter_map, List.length_map]
  rfl
theorem places_count (c : List Bool) : (places c).length = (c.filter fun b => b).length := by
  have h := rank_take c (Nat.le_refl _)
  rw [rank_all, List.take_length] at h
  omega
theorem ahead_count (c : List Bool) (e : Int) (hL : 0 < c.length) : ahead c e = e / (c.length : Int) * ((c.filter fun b => b).length : Int) + (((c.take (e % (c.length : Int)).toNat).filter fun b => b).length : Int) := by
  have h0 := Int.emod_nonneg e (show (c.length : Int) ≠ 0 by omega)
  have h1 := Int.emod_lt_of_pos e (show (0 : Int) < (c.length : Int) by omega)
  unfold ahead
  rw [places_count]
  have r := rank_take c (k := (e % (c.length : Int)).toNat) (by omega)
  rw [Int.toNat_of_nonneg h0] at r
  rw [r]
theorem gains_snoc (c : List Bool) (ch : Chs) (q : Int × Bool) : gains c (ch ++ [q]) = gains c ch + gain c q.1 q.2 := by
  unfold gains
  rw [List.map_append, List.sum_append]
  simp
section
variable {c : List Bool} {ch : Chs}
theorem wa (hc : true ∈ c) (h : Asc (-1) ch) {a : Int} (a0 : 0 ≤ a) : wAhead c ch a = cnt (works c ch) a.toNat := by
  have z := wAhead_cnt c (List.length_pos_of_mem hc) a.toNat (show (-1 : Int) ≤ -1 by decide) h
  rwa [Int.toNat_of_nonneg a0] at z
theorem wa_nn (hc : true ∈ c) (h : Asc (-1) ch) {a : Int} (a0 : 0 ≤ a) : 0 ≤ wAhead c ch a := by
  rw [wa hc h a0]
  exact cnt_0 _ _
theorem wa_le (hc : true ∈ c) (h : Asc (-1) ch) {a b : Int} (a0 : 0 ≤ a) (ab : a ≤ b) : wAhead c ch a ≤ wAhead c ch b := by
  rw [wa hc h a0, wa hc h (by omega)]
  exact cnt_le _ (by omega)
theorem wa_lt (hc : true ∈ c) (h : Asc (-1) ch) {a b : Int} (a0 : 0 ≤ a) (ab : a < b) (w : works c ch a = true) : wAhead c ch a < wAhead c ch b := by
  rw [wa hc h a0, wa hc h (by omega)]
  refine cnt_lt _ (by omega) ?_
  rw [Int.toNat_of_nonneg a0]
  exact w
theorem wa_succ (hc : true ∈ c) (h : Asc (-1) ch) {a : Int} (a0 : 0 ≤ a) : wAhead c ch (a + 1) = wAhead c ch a + b2 (works c ch a) := by
  rw [wa hc h a0, wa hc h (by omega), show (a + 1).toNat = a.toNat + 1 by omega]
  show cnt _ a.toNat + b2 (works c ch (a.toNat : Nat)) = _
  rw [Int.toNat_of_nonneg a0]
/-- the one slot that works with so many ahead of it -/
theorem sb (hc : true ∈ c) (h : Asc (-1) ch) {a : Int} (ha : 0 ≤ a) : 0 ≤ slotB c ch 0 a ∧ works c ch (slotB c ch 0 a) = true ∧ wAhead c ch (slotB c ch 0 a) = a := by
  obtain ⟨n, e, w, k⟩ := slotB_cnt c hc h ha
  rw [e]
  refine ⟨by omega, w, ?_⟩
  rw [wAhead_cnt c (List.length_pos_of_mem hc) n (show (-1 : Int) ≤ -1 by decide) h, k]
/-- .. there is only one -/
theorem sb_uniq (hc : true ∈ c) (h : Asc (-1) ch) {s : Int} (s0 : 0 ≤ s) (w : works c ch s = true) : slotB c ch 0 (wAhead c ch s) = s := by
  obtain ⟨h1, h2, h3⟩ := sb hc h (wa_nn hc h s0)
  rcases Int.lt_trichotomy (slotB c ch 0 (wAhead c ch s)) s with l | e | l
  · have := wa_lt hc h h1 l h2
    omega
  · exact e
  · have := wa_lt hc h s0 l w
    omega
/-- the least slot from one on that works -/
theorem nextW (hc : true ∈ c) (h : Asc (-1) ch) {a : Int} (a0 : 0 ≤ a) : a ≤ slotB c ch 0 (wAhead c ch a) ∧ works c ch (slotB c ch 0 (wAhead c ch a)) = true ∧ wAhead c ch (slotB c ch 0 (wAhead c ch a)) = wAhead c ch a := by
  obtain ⟨h1, h2, h3⟩ := sb hc h (wa_nn hc h a0)
  refine ⟨?_, h2, h3⟩
  rcases Int.lt_or_le (slotB c ch 0 (wAhead c ch a)) a with l | l
  · have := wa_lt hc h h1 l h2
    omega
  · exact l
/-- the end of some work -/
def endS (c : List Bool) (ch : Chs) (s w : Int) : Int := slotB c ch 0 (wAhead c ch s + w - 1) + 1
theorem endS_ok (hc : true ∈ c) (h : Asc (-1) ch) {s w : Int} (s0 : 0 ≤ s) (w1 : 1 ≤ w) : 1 ≤ endS c ch s w ∧ works c ch (endS c ch s w - 1) = true ∧ wAhead c ch (endS c ch s w - 1) = wAhead c ch s + w - 1 ∧ wAhead c ch (endS c ch s w) = wAhead c ch s + w := by
  have hn := wa_nn hc h s0
  obtain ⟨h1, h2, h3⟩ := sb hc h (a := wAhead c ch s + w - 1) (by omega)
  have e : endS c ch s w - 1 = slotB c ch 0 (wAhead c ch s + w - 1) := by
    unfold endS
    omega
  have z := wa_succ hc h h1
  rw [h2, h3] at z
  refine ⟨?_, ?_, ?_, ?_⟩
  · unfold endS
    omega
  · rw [e]
    exact h2
  · rw [e]
    exact h3
  · show wAhead c ch (slotB c ch 0 (wAhead c ch s + w - 1) + 1) = _
    rw [z]
    show wAhead c ch s + w - 1 + 1 = _
    omega
end
end Cal


set_option Elab.async false
set_option autoImplicit false
set_option linter.all false
set_option maxRecDepth 100000
set_option maxHeartbeats 4000000
namespace Ca
open PySem PySem.Spec PyProof.Rows L2 Cmb Ly Cal
section
variable {c : Ly.Ctx} {ρ : List Cell} {n i j : Nat} {te ta tb tc : TE} {tr : TA} {d e : Da} {ds es : List Da} {R : Da → Nat → Prop}
/-! ### rules that lacked -/
abbrev rIsNn : R2 := fun x y H Q => y = .non ∧ Q (.bl (decide (x = .non))) H
def Da.isN : Da → Bool
  | .non => true
  | _ => false
theorem d_isN {x : V} (h : EvD c te ρ d) (hs : d.sc = some x) : EvD c (tOp rIsNn te (tC .non)) ρ (.bl (Da.isN d)) := fun B H σ n G Q q => h B H σ n G _ fun v B1 H1 s j r => by
  have e := sc_rep r hs
  subst e
  refine ⟨rfl, ?_⟩
  have z : decide (v = V.non) = Da.isN d := by
    cases d <;> cases hs <;> rfl
  rw [z]
  exact q _ B1 H1 s j (.bl _)
theorem d_max2 {x y : Int} (ha : EvD c ta ρ (.int x)) (hb : EvD c tb ρ (.int y)) : EvD c (tCB (fun xs H Q => ∃ i j, xs = [.int i, .int j] ∧ Q (.int (if j > i then j else i)) H) (tCons ta (tCons tb tNil))) ρ (.int (if y > x then y else x)) := fun B H σ n G Q q =>
  ha B H σ n G _ fun v B1 H1 s j r => hb B1 H1 σ n (G.step s j) _ fun w B2 H2 s2 j2 r2 => by
    cases r
    cases r2
    exact ⟨x, y, rfl, q _ B2 H2 (s.trans (jnF j) s2) j2 (.int _)⟩
/-- repr of a bool -/
def rReprB : List V → Hp → VK → Prop := fun xs H Q => ∃ b : Bool, xs = [.bl b] ∧ Q (.str (if b then "True" else "False")) H
theorem call_reprB {X : Cx} : CallR X (.builtin "repr") rReprB := by
  intro pins s σ H xs us Q I r h
  obtain ⟨b, rfl, q⟩ := h
  obtain ⟨u, rfl, t⟩ := vals1 r
  cases t
  exact PySem.P.repr_of_bool ⟨.str _, H, I.tok _, ⟨_, rfl⟩, q⟩
theorem d_reprB {b : Bool} (h : EvD c te ρ (.bl b)) : EvD c (tCB rReprB (tCons te tNil)) ρ (.str (if b then "True" else "False")) := fun B H σ n G Q q => h B H σ n G _ fun v B1 H1 s j r => by
  cases r
  exact ⟨b, rfl, q _ B1 H1 s j (.str _)⟩
/-- int of a bool -/
theorem d_intB {b : Bool} (h : EvD c te ρ (.bl b)) : EvD c (tCB (fun xs H Q => (∃ i, xs = [.int i] ∧ Q (.int i) H) ∨ ∃ k, xs = [.bl k] ∧ Q (.int (if k then 1 else 0)) H) (tCons te tNil)) ρ (.int (b2 b)) := fun B H σ n G Q q => h B H σ n G _ fun v B1 H1 s j r => by
  cases r
  refine .inr ⟨b, rfl, ?_⟩
  have e : (if b = true then (1 : Int) else 0) = b2 b := by cases b <;> rfl
  rw [e]
  exact q _ B1 H1 s j (.int _)
theorem d_neSs {x : V} (ha : EvD c ta ρ d) (hb : EvD c tb ρ d) (h1 : d.sc = some x) (hs : scal x x = true) : EvD c (tOp rNe ta tb) ρ (.bl false) := (d_neS ha hb h1 h1 hs).eq (by rw [decide_eq_true rfl]; rfl)
theorem d_eqSs {x : V} (ha : EvD c ta ρ d) (hb : EvD c tb ρ d) (h1 : d.sc = some x) (hs : scal x x = true) : EvD c (tOp rEq ta tb) ρ (.bl true) := (d_eqS ha hb h1 h1 hs).eq (by rw [decide_eq_true rfl])
theorem d_cut {k : Nat} (h : EvD c te ρ (.tup ds)) (hk : EvD c ta ρ (.int (k : Int))) (hl : k ≤ ds.length) : EvD c (tSl (rSlA c.K) te tNoPart (tPart ta)) ρ (.tup (ds.take k)) := (d_sliceT h p_none (p_some hk)).eq (by
  congr 1
  unfold Ly.cutD
  rw [HT.sIx_none, HT.sIx_nat, List.drop_zero, Nat.sub_zero, Nat.min_eq_left hl])
end
section
theorem lc_true {c : Ly.Ctx} {ρ : List Cell} {te : TE} {b : List Bool} (v : Nat) (he : EvD c te ρ (.tup (b.map .bl))) (hz : b.length ≤ 100000) (hv : v < ρ.length) (n : Nat) : EvO c (tLc (iSeq c.K te) (gName v) (tB (tVar v)) (tVar v) [v]) ρ n fun ds m => ds = (b.filter fun x => x).map Da.bl ∧ m = n := by
  have hw := wk_seq (n := n) he (ds := b.map .bl) rfl
  rw [List.length_map] at hw
  have g4 : ∀ k, ((wipeC ρ [v]).set v (.da (.bl (b.getD k false))))[v]? = some (.da (.bl (b.getD k false))) := fun k => set_at (by rw [wipeC_len]; exact hv)
  have z := o_lcK (vs := [v]) (N := b.length) (g := gName v) (tt := tB (tVar v)) (te := tVar v) (dd := nth (b.map .bl)) (ρ2 := fun k => (wipeC ρ [v]).set v (.da (.bl (b.getD k false)))) (b := fun k => b.getD k false) (el := fun k => .bl (b.getD k false)) hw hz (fun k hk => ?_) (fun k hk => t_B (d_var (g4 k))) (fun k hk _ => d_var (g4 k))
  · rw [range_filter b false (fun x => x) Da.bl] at z
    exact z
  · rw [nth_map false hk]
    exact tw_name (List.mem_singleton.mpr rfl)
end

end Ca


set_option Elab.async false
set_option autoImplicit false
set_option linter.all false
set_option maxRecDepth 100000
set_option maxHeartbeats 4000000
namespace Ca
open PySem PySem.Spec PyProof.Rows L2 Cmb Ly Cal
/-! ### the law's own defs: drawing -/
section
variable {c : Ly.Ctx} {ρ : List Cell} {n i j : Nat} {te ta tb : TE} {ta' : TA} {tr : TA} {d e : Da} {ds : List Da} {E : SE} {R : Da → Nat → Prop}
theorem d_int1 {k : Int} (h : EvD c te ρ (.int k)) : EvD c (tCB (fun xs H Q => (∃ i, xs = [.int i] ∧ Q (.int i) H) ∨ ∃ k, xs = [.bl k] ∧ Q (.int (if k then 1 else 0)) H) (tCons te tNil)) ρ (.int k) := fun B H σ n G Q q => h B H σ n G _ fun v B1 H1 s j r => by
  cases r
  exact .inl ⟨k, rfl, q _ B1 H1 s j (.int _)⟩
theorem g_opL {g : Int → Int → V} {k : Int} (ha : EvD c ta ρ (.int k)) (hb : EvG c tb ρ n fun e m => ∃ j z, e = .int j ∧ (∀ B, Rep c.K B (g k j) z) ∧ R z m) : EvG c (tOp (rI0 g) ta tb) ρ n R :=
  g_op (fun d m => d = .int k ∧ m = n) (ha.g ⟨rfl, rfl⟩) fun d m ⟨e1, e2⟩ => by
    subst e1
    subst e2
    exact hb.imp fun e m2 ⟨j, z, e1, h1, h2⟩ => ⟨z, by rw [e1]; exact od_I0 h1, h2⟩
theorem g_opR {g : Int → Int → V} {k : Int} (ha : EvG c ta ρ n fun d m => ∃ i z, d = .int i ∧ (∀ B, Rep c.K B (g i k) z) ∧ R z m) (hb : EvD c tb ρ (.int k)) : EvG c (tOp (rI0 g) ta tb) ρ n R :=
  g_op _ ha fun d m ⟨i, z, e1, h1, h2⟩ => hb.g (R := fun e m2 => ∃ z, OpD c (rI0 g) d e z ∧ R z m2) ⟨z, by rw [e1]; exact od_I0 h1, h2⟩
theorem od_eqI {i j : Int} : OpD c rEq (.int i) (.int j) (.bl (decide (i = j))) := fun B H v w n bh jn rv rw Q q => by
  cases rv
  cases rw
  refine ⟨rfl, ?_⟩
  have e : decide (V.int i = V.int j) = decide (i = j) := decide_eq_decide.mpr ⟨fun z => by cases z; rfl, fun z => by rw [z]⟩
  rw [e]
  exact q _ B H (Step.refl bh) jn (.bl _)
/-- f, x = [], e -/
theorem s_parOwn (h : EvG c te ρ n R) (k : ∀ d m, R d m → E.nx ((ρ.set i (.own [])).set j (.da d)) m) : SvG c (tPar i j (tCons (tLst tNil) (tCons te tNil))) ρ n E := fun B H σ D G K => ⟨by show 0 ≤ sizeLine; exact Nat.zero_le _, fun p hp => by
  have bp : B p = none := Evl.fresh_back G.bh hp
  have nF : ¬ c.F p := fun f => jnF G.jn p f hp
  have h0 : c.H0 p = none := by
    cases q : c.H0 p with
    | none => rfl
    | some o =>
      rw [G.eh p o nF q] at hp
      cases hp
  have no : ∀ (k : Nat) (x : Cell), ρ[k]? = some x → x.mine = true → σ[k]? ≠ some (some (V.ref p)) := fun k x h mm z => by
    obtain ⟨l, o, h1, _, _, _, h5⟩ := G.addr h mm
    rw [h1] at z
    cases z
    rw [hp] at h5
    cases h5
  have G' : Good c B (upd H p (.lst [])) σ ρ n := G.obj bp nF h0 no
  refine h B (upd H p (.lst [])) σ G' _ fun v d B2 H2 m s jn r a => ⟨_, _, rfl, ?_⟩
  have s0 : Step c B H B (upd H p (.lst [])) := ⟨Evl.Ex.refl _, G'.bh, ExF.of (Evl.Ex.new hp), fun _ h _ => h⟩
  have jf : ∀ q, c.F q → (upd H p (.lst [])) q ≠ none := fun q f => J.F G'.jn q f
  have hx : H2 p = some (.lst []) := s.eh p _ nF upd_same
  have b2 : B2 p = none := s.fr p bp (by rw [upd_same]; exact fun z => nomatch z)
  exact K.nx s.eb ((G.takeOwn hp (s0.trans jf s) jn b2 hx .nil).set r) (k d m a)⟩
/-- x, y = e1, e2 -/
theorem s_parG {Ra : List Da → Nat → Prop} (h : EvGA c tr ρ n Ra) (k : ∀ ds m, Ra ds m → ∃ d e, ds = [d, e] ∧ E.nx ((ρ.set i (.da d)).set j (.da e)) m) : SvG c (tPar i j tr) ρ n E := fun B H σ D G K =>
  h B H σ G _ fun vs ds B1 H1 m s jn r a => by
    obtain ⟨d, e, e1, hn⟩ := k ds m a
    subst e1
    cases r with
    | cons r1 r2 =>
      cases r2 with
      | cons r2 r3 =>
        cases r3
        exact ⟨_, _, rfl, K.nx s.eb (((G.step s jn).set r1).set r2) hn⟩
theorem wkG_list {R' : Da → Nat → Prop} (h : EvG c te ρ n R') {P : Nat → (Nat → Da) → Nat → Prop} (hk : ∀ d m, R' d m → ∃ ds, d = .lst ds ∧ P ds.length (nth ds) m) : Wk c (iList c.K te) ρ n P := fun B H σ G S q => h B H σ G _ fun v d B1 H1 m s j r a => by
  obtain ⟨ds, e, hP⟩ := hk d m a
  subst e
  cases r with
  | @lst a xs _ hb hr =>
    have sq : ∀ H', Evl.Ex B1 H' → SqL c.K H' a xs := fun H' e => SqL.of (e _ _ hb)
    refine ⟨a, rfl, ⟨xs, sq _ s.bh⟩, q _ _ _ _ B1 H1 hP s j (fun H' e k => ⟨fun lt => ?_, fun ek => ?_⟩) fun H' k x H'' B' n' lt e e' j' y => ?_⟩
    · exact (walk_list (xs := xs)).goes k H' (by rw [hr.len]; exact lt) (sq H' e)
    · rw [ek, ← hr.len]
      exact walk_list.stops H' (sq H' e)
    · obtain ⟨eh, hx⟩ := (walk_list (xs := xs)).yields k H' x H'' (by rw [hr.len]; exact lt) (sq H' (e.trans e')) y
      subst eh
      obtain ⟨d, hd, rd⟩ := hr.got hx
      refine ⟨B', Step.refl e', j', ?_⟩
      rw [nth_at hd]
      exact rd.up e
theorem g_draw {m : Int} (hi : ρ[0]? = some .wl) (h : EvD c te ρ (.int m)) (m1 : 1 ≤ m) (m2 : m ≤ 1000000) (hn : n < 1000000) : EvG c (tCall (spW c.K Sdraw Rdraw) [] E0 (tCons (tVar 0) (tCons te tNil))) ρ n fun d k => ∃ r, d = .int r ∧ 0 ≤ r ∧ r < m ∧ k = n + 1 :=
  g_callW hi (Ra := fun ds k => ds = [.int m] ∧ k = n) ((a_cons h a_nil).g ⟨rfl, rfl⟩) fun ds k ⟨e1, e2⟩ => by
    subst e1
    subst e2
    refine ⟨⟨m, rfl, m1, m2, hn⟩, fun d k2 ⟨m', r, z1, z2, z3, z4, z5⟩ => ?_⟩
    cases z1
    exact ⟨r, z2, z3, z4, z5⟩
theorem g_one {es : List Da} (hi : ρ[0]? = some .wl) (h : EvD c te ρ (.lst es)) (h1 : 1 ≤ es.length) (h2 : es.length ≤ 1000000) (hn : n < 1000000) : EvG c (tCall (spW c.K Sone Rone) [] E0 (tCons (tVar 0) (tCons te tNil))) ρ n fun d k => d ∈ es ∧ k = n + 1 :=
  g_callW hi (Ra := fun ds k => ds = [.lst es] ∧ k = n) ((a_cons h a_nil).g ⟨rfl, rfl⟩) fun ds k ⟨e1, e2⟩ => by
    subst e1
    subst e2
    refine ⟨⟨es, rfl, h1, h2, hn⟩, fun d k2 ⟨es', z1, z2, z3⟩ => ?_⟩
    cases z1
    exact ⟨z2, z3⟩
end
section
variable {P : Program} {w : World} {K : PySem.W.Frag} {mg : Str → Option Value} {base : Heap} {f : Addr} {fd : FuncData} {C : Addr}
theorem sc_draw : FnScope ["_law_well_here", "_law_many", "_law_found", "_law_number"] ["_law_well_here", "_law_many"] (defScope (top 29)) := ⟨rfl, rfl, rfl, by decide +kernel, rfl, by decide +kernel, by decide +kernel⟩
theorem ok_draw (F : FnP K "_law_draw" (top 29) f fd) (T : Txt K mg C) : FnOk P w K mg base CX0 1 f fd ["_law_well_here", "_law_many"] (spW K Sdraw Rdraw) := by
  have nd := sc_draw.nd
  refine F.ok sc_draw (fun vs H Q E h => ?_) (fun cdv A outer s H vs Q E hr h => ⟨_, PSs.nox (pss_cons (ps_if (pt_cmpR op_gt (pe_ix ix_list (pv 0) pe_int (fun _ _ => rfl)) pe_int (nomark _)) (pss_cons (ps_set (i := 2) nd rfl (Or.inl rfl) (pe_op op_mod (pe_callTy call_int1 (by rfl) T.int (by decide +kernel) (pa_cons (pe_ix ix_list (pv 0) pe_int (fun _ _ => rfl)) pa_nil)) (pv 1)))
      (pss_cons (ps_asg (pe_op op_fdiv (pe_ix ix_list (pv 0) pe_int (fun _ _ => rfl)) (pv 1)) (pg_sub (pv 0) pe_int set_list))
      (pss_one (ps_ret (pv 2))))) pss_nil)
      (pss_cons (ps_asg (pe_op op_add (pe_ix ix_list (pv 0) pe_int (fun _ _ => rfl)) pe_int) (pg_sub (pv 0) pe_int set_list))
      (pss_cons (ps_set (i := 3) nd rfl (Or.inl rfl) (pe_op op_mod (pe_callTy call_int1 (by rfl) T.int (by decide +kernel) (pa_cons (pe_op op_mul (pe_op op_add (pe_op op_add (pe_ix ix_list (pv 0) pe_int (fun _ _ => rfl)) (pe_op op_mul pe_int (pe_ix ix_list (pv 0) pe_int (fun _ _ => rfl)))) pe_int) pe_int) pa_nil)) pe_int))
      (pss_cons (ps_set (i := 3) nd rfl (Or.inl rfl) (pe_op op_mod (pe_callTy call_int1 (by rfl) T.int (by decide +kernel) (pa_cons (pe_op op_mul (pv 3) (pe_op op_add (pe_op op_fdiv (pv 3) pe_int) pe_int)) pa_nil)) pe_int))
      (pss_one (ps_ret (pe_op op_mod (pe_callTy call_int1 (by rfl) T.int (by decide +kernel) (pa_cons (pe_op op_fdiv (pe_op op_mod (pe_callTy call_int1 (by rfl) T.int (by decide +kernel) (pa_cons (pe_op op_mul (pv 3) (pe_op op_add (pe_op op_fdiv (pv 3) pe_int) pe_int)) pa_nil)) pe_int) pe_int) pa_nil)) (pv 1)))))))), ?_⟩)
  · obtain ⟨p, a, b, c, m, rfl, _⟩ := draw_ask h
    rfl
  · obtain ⟨p, a, b, c, m, rfl, hp, W, hc, m1, m2, k⟩ := draw_ask h
    have hS := SqL.of (K := K) hp
    have h1 := W.a0
    have h2 := W.b0
    have h3 := W.b1
    have h4 := W.k0
    refine ⟨_, rfl, p, _, _, _, rfl, rfl, hS, rfl, _, _, rfl, rfl, _, rfl, ?_⟩
    refine ite2 (fun ha => ?_) (fun ha => ?_)
    · refine ⟨_, rfl, p, _, _, _, rfl, rfl, hS, rfl, .inl ⟨_, rfl, _, rfl, _, _, rfl, rfl, (by show (0 : Int) < m; omega), ?_⟩⟩
      refine ⟨_, rfl, p, _, _, _, rfl, rfl, hS, rfl, _, rfl, _, _, rfl, rfl, ⟨by show (0 : Int) < m; omega, by show m < 1073741824; omega⟩, ?_⟩
      refine ⟨_, rfl, p, _, _, 0, rfl, rfl, hp, rfl, ?_⟩
      refine ⟨_, rfl, ?_⟩
      exact k _ _ _ (Int.emod_nonneg _ (by omega)) (Int.emod_lt_of_pos _ (by omega)) ⟨Int.ediv_nonneg h1 (by omega), h2, h3, h4⟩ (by omega)
    · refine ⟨_, rfl, p, _, _, _, rfl, rfl, hS, rfl, _, _, rfl, rfl, ?_⟩
      refine ⟨_, rfl, p, _, _, 2, rfl, rfl, hp, rfl, ?_⟩
      have hp' : upd H p (.lst [.int a, .int b, .int (c + 1)]) p = some (.lst [.int a, .int b, .int (c + 1)]) := upd_same
      have hS' := SqL.of (K := K) hp'
      refine ⟨_, rfl, p, _, _, _, rfl, rfl, hS', rfl, _, rfl, p, _, _, _, rfl, rfl, hS', rfl, _, _, rfl, rfl, .inl ⟨by decide, by decide⟩, _, _, rfl, rfl, _, _, rfl, rfl, _, _, rfl, rfl, .inr ⟨by decide, by decide⟩, .inl ⟨_, rfl, _, _, rfl, rfl, (by show (0 : Int) < 2147483647; decide), ?_⟩⟩
      have y1 := Int.emod_nonneg ((b + 90001 * (c + 1) + 7) * 48271) (show (2147483647 : Int) ≠ 0 by decide)
      have y2 := Int.emod_lt_of_pos ((b + 90001 * (c + 1) + 7) * 48271) (show (0 : Int) < 2147483647 by decide)
      refine ⟨_, rfl, _, rfl, _, _, rfl, rfl, ⟨by decide, by decide⟩, _, _, rfl, rfl, _, _, rfl, rfl, .inl ⟨?_, ?_⟩, .inl ⟨_, rfl, _, _, rfl, rfl, (by show (0 : Int) < 2147483629; decide), ?_⟩⟩
      · show -(2 ^ 64) < ((b + 90001 * (c + 1) + 7) * 48271) % 2147483647
        omega
      · show ((b + 90001 * (c + 1) + 7) * 48271) % 2147483647 < 2 ^ 64
        omega
      have z1 := Int.emod_nonneg ((((b + 90001 * (c + 1) + 7) * 48271) % 2147483647) * ((((b + 90001 * (c + 1) + 7) * 48271) % 2147483647) / 1013 + 69621)) (show (2147483629 : Int) ≠ 0 by decide)
      have z2 := Int.emod_lt_of_pos ((((b + 90001 * (c + 1) + 7) * 48271) % 2147483647) * ((((b + 90001 * (c + 1) + 7) * 48271) % 2147483647) / 1013 + 69621)) (show (0 : Int) < 2147483629 by decide)
      refine ⟨_, rfl, _, rfl, _, _, rfl, rfl, ⟨by decide, by decide⟩, _, _, rfl, rfl, _, _, rfl, rfl, .inl ⟨?_, ?_⟩, .inl ⟨_, rfl, _, _, rfl, rfl, (by show (0 : Int) < 2147483399; decide), _, _, rfl, rfl, ⟨by decide, by decide⟩, .inl ⟨_, rfl, _, rfl, _, _, rfl, rfl, (by show (0 : Int) < m; omega), ?_⟩⟩⟩
      · exact Int.lt_of_lt_of_le (by decide) z1
      · exact Int.lt_trans z2 (by decide)
      exact k _ _ _ (Int.emod_nonneg _ (by omega)) (Int.emod_lt_of_pos _ (by omega)) ⟨h1, h2, h3, by omega⟩ (by omega)
theorem sc_one : FnScope ["_law_well_here", "_law_some"] ["_law_well_here", "_law_some"] (defScope (top 30)) := ⟨rfl, rfl, rfl, by decide +kernel, rfl, by decide +kernel, by decide +kernel⟩
theorem ok_one (F : FnP K "_law_one" (top 30) f fd) (T : Txt K mg C) (D_law_draw : Dn P w K mg base 1 "_law_draw" ["_law_well_here", "_law_many"] (spW K Sdraw Rdraw)) : FnOk P w K mg base CX0 2 f fd ["_law_well_here", "_law_some"] (spW K Sone Rone) := by
  have nd := sc_one.nd
  refine F.ok sc_one (fun vs H Q E h => ?_) (fun cdv A outer s H vs Q E hr h => ⟨_, PSs.nox (pss_one (ps_ret (pe_ix ix_list (pv 1) (pe_d D_law_draw (hr.mono (by decide)) (pa_cons (pv 0) (pa_cons (pe_callB call_len_seq (by rfl) T.len PySem.boot_len (pa_cons (pv 1) pa_nil)) pa_nil))) (fun _ _ => rfl)))), ?_⟩)
  · obtain ⟨p, ws, B, ds, n, rfl, _, _, _, rv, ⟨es, e1, _⟩, _⟩ := h
    subst e1
    show ws.length + 1 = 2
    rw [rv.len]
    rfl
  · exact one_body (by decide) h
/-- a new list of three numbers, to draw from -/
def spWell : Sp := fun vs H Q _ => ∃ k : Int, vs = [.int k] ∧ ∀ (p : Addr) (a b : Int), H p = none → Well a b 0 → Q (.ref p) (upd H p (.lst [.int a, .int b, .int 0]))
theorem sc_well : FnScope ["_law_cell"] ["_law_cell"] (defScope (top 28)) := ⟨rfl, rfl, rfl, by decide +kernel, rfl, by decide +kernel, by decide +kernel⟩
theorem ok_well (F : FnP K "_law_well" (top 28) f fd) (T : Txt K mg C) : FnOk P w K mg base CX0 1 f fd ["_law_cell"] spWell := by
  have nd := sc_well.nd
  refine F.ok sc_well (fun vs H Q E h => ?_) (fun cdv A outer s H vs Q E hr h => ⟨_, PSs.nox (pss_one (ps_ret (pe_lst (pa_cons (pe_op op_mul (pv 0) (pe_callTy call_int1 (by rfl) T.int (by decide +kernel) (pa_cons (pe_cmpR op_ge (pv 0) (pe_op op_pow pe_int pe_int) (nomark _)) pa_nil))) (pa_cons (pe_op op_mod (pe_callTy call_int1 (by rfl) T.int (by decide +kernel) (pa_cons (pv 0) pa_nil)) pe_int) (pa_cons pe_int pa_nil)))))), ?_⟩)
  · obtain ⟨k, rfl, _⟩ := h
    rfl
  · obtain ⟨n, rfl, k⟩ := h
    refine ⟨_, rfl, _, rfl, 10, 18, rfl, rfl, ⟨by decide, by decide, by decide⟩, _, _, rfl, rfl, .inr ⟨_, rfl, _, _, rfl, rfl, ?_, ?_⟩⟩
    · refine .inr ?_
      cases decide ((10 : Int) ^ (18 : Int).toNat ≤ n) with
      | true => exact ⟨by decide, by decide⟩
      | false => exact ⟨by decide, by decide⟩
    refine ⟨_, rfl, .inl ⟨_, rfl, _, _, rfl, rfl, (by show (0 : Int) < 2147483647; decide), (by show 3 ≤ sizeLine; decide), fun p np => ?_⟩⟩
    have m1 := Int.emod_nonneg n (show (2147483647 : Int) ≠ 0 by decide)
    have m2 := Int.emod_lt_of_pos n (show (0 : Int) < 2147483647 by decide)
    refine k p _ _ np ⟨?_, m1, by omega, Int.le_refl 0⟩
    by_cases q : (10 : Int) ^ (18 : Int).toNat ≤ n
    · rw [decide_eq_true q]
      show 0 ≤ n * 1
      have q2 : (0 : Int) ≤ (10 : Int) ^ (18 : Int).toNat := by decide
      omega
    · rw [decide_eq_false q]
      show 0 ≤ n * 0
      omega
end

end Ca


set_option Elab.async false
set_option autoImplicit false
set_option linter.all false
set_option maxRecDepth 100000
set_option maxHeartbeats 4000000
namespace Ca
open PySem PySem.Spec PyProof.Rows L2 Cmb Ly Cal
section
variable {P : Program} {w : World} {K : PySem.W.Frag} {mg : Str → Option Value} {base : Heap} {f : Addr} {fd : FuncData} {C : Addr}
/-! ### _law_parts -/
theorem asc_put : ∀ {ch : Chs} {lo s : Int} {b : Bool}, Asc lo ch → (∀ q ∈ ch, q.1 < s) → lo < s → Asc lo (ch ++ [(s, b)])
  | [], _, _, _, _, _, h => ⟨h, True.intro⟩
  | q :: r, _, _, _, h, hb, _ => ⟨h.1, asc_put h.2 (fun p hp => hb p (List.mem_cons_of_mem _ hp)) (hb q List.mem_cons_self)⟩
def SParts : List Da → Nat → Prop := fun ds n => ∃ far : Int, ds = [.int far] ∧ 0 ≤ far ∧ n ≤ 900000
def RParts : List Da → Nat → Da → Nat → Prop := fun ds n d n2 => ∃ (far : Int) (cy : List Bool) (ch : Chs), ds = [.int far] ∧ d = .tup [cycD cy, chsD ch] ∧ CalOk cy ch ∧ Asc (far - 1) ch ∧ (∀ q ∈ ch, q.1 ≤ far + 48) ∧ n2 ≤ n + 60
abbrev tDraw (K : PySem.W.Frag) (te : TE) : TE := tCall (spW K Sdraw Rdraw) [] E0 (tCons (tVar 0) (tCons te tNil))
theorem sc_parts : FnScope ["_law_well_here", "_law_far_here", "_law_whole_so", "_law_turn_here", "_law_found", "_law_slot"] ["_law_well_here", "_law_far_here"] (defScope (top 31)) := ⟨rfl, rfl, rfl, by decide +kernel, rfl, by decide +kernel, by decide +kernel⟩
theorem ok_parts (F : FnP K "_law_parts" (top 31) f fd) (T : Txt K mg C) (D_law_draw : Dn P w K mg base 1 "_law_draw" ["_law_well_here", "_law_many"] (spW K Sdraw Rdraw)) : FnOk P w K mg base CX0 2 f fd ["_law_well_here", "_law_far_here"] (spW K SParts RParts) := by
  have nd := sc_parts.nd
  refine F.ok sc_parts (fun vs H Q E h => ?_) (fun cdv A outer s H vs Q E hr h => ?_)
  · obtain ⟨p, ws, B, ds, n, rfl, _, _, _, rv, ⟨far, e1, _⟩, _⟩ := h
    subst e1
    show ws.length + 1 = 2
    rw [rv.len]
    rfl
  · refine ⟨_, PSs.nox (pss_cons (ps_setLc (i := 2) (own := [("_law_turn_here", 3)]) (wi := iRng1 (tCons (tOp (rI0 fun i j => .int (i + j)) (tC (.int 1)) (tDraw K (tC (.int 14)))) tNil)) (g := gName 3) (tt := tYes) (te := tOp (rI0 fun i j => .bl (decide (i > j))) (tDraw K (tC (.int 3))) (tC (.int 0))) rfl nd rfl ?hyl ?hsw ?hi (blkOk_by (own := [("_law_turn_here", 3)]) (N := ["_law_well_here", "_law_far_here", "_law_whole_so", "_law_turn_here", "_law_found", "_law_slot"]) (sc := defScope (top 31)) (by decide +kernel)) ?hg ?ht ?he)
      (pss_cons (ps_asg pe_bl (pg_sub (pv 2) (pe_d D_law_draw (hr.mono (by decide)) (pa_cons (pv 0) (pa_cons (pe_callB call_len_seq (by rfl) T.len PySem.boot_len (pa_cons (pv 2) pa_nil)) pa_nil))) set_list))
      (pss_cons (ps_par (i := 4) (j := 5) (by rfl) nd rfl rfl (by decide) rfl rfl (pa_cons (pe_lst pa_nil) (pa_cons (pe_op op_add (pv 1) (pe_d D_law_draw (hr.mono (by decide)) (pa_cons (pv 0) (pa_cons pe_int pa_nil)))) pa_nil)) (by rfl))
      (pss_cons (ps_for PassesOwn.never rfl (pi_range1 (by rfl) T.range (pa_cons (pe_d D_law_draw (hr.mono (by decide)) (pa_cons (pv 0) (pa_cons pe_int pa_nil))) pa_nil)) (pg_name (i := 3) nd rfl (Or.inl rfl))
        (pss_cons (ps_expr (pe_bm PySem.F.plainAttrs_list PySem.F.slot_list_append PySem.F.type_list_append mt_append (pv 4) (pa_cons (pe_tup (pa_cons (pv 5) (pa_cons (pe_cmpR op_eq (pe_d D_law_draw (hr.mono (by decide)) (pa_cons (pv 0) (pa_cons pe_int pa_nil))) pe_int (nomark _)) pa_nil))) pa_nil)))
        (pss_one (ps_set (i := 5) nd rfl (Or.inl rfl) (pe_op op_add (pe_op op_add (pv 5) pe_int) (pe_d D_law_draw (hr.mono (by decide)) (pa_cons (pv 0) (pa_cons pe_int pa_nil))))))))
      (pss_one (ps_ret (pe_tup (pa_cons (pe_callTy call_tuple_of (by rfl) T.tuple (by decide +kernel) (pa_cons (pv 2) pa_nil)) (pa_cons (pe_callTy call_tuple_of (by rfl) T.tuple (by decide +kernel) (pa_cons (pv 4) pa_nil)) pa_nil))))))))), ?rd⟩
    case hyl => rfl
    case hsw => rfl
    case hi => exact pi_range1 (by rfl) T.range (pa_cons (pe_op op_add pe_int (pe_d D_law_draw (hr.mono (by decide)) (pa_cons (pv 0) (pa_cons pe_int pa_nil)))) pa_nil)
    case hg => exact fun _ _ _ _ _ => pg_name (i := 3) nd rfl (Or.inl rfl)
    case ht => exact fun _ _ _ _ _ => pts_nil
    case he => exact fun _ _ _ _ _ => pe_cmpR op_gt (pe_d D_law_draw (hr.mono (by decide)) (pa_cons (pv 0) (pa_cons pe_int pa_nil))) pe_int (nomark _)
    refine run_W h (fun ds n ⟨far, e, _⟩ => by rw [e]; show 2 ≤ 6; decide) fun p B0 H0 ds n ⟨far, e, hf, hn⟩ => ?_
    subst e
    have lc : EvO ⟨K, some p, B0, H0⟩ (tLc (iRng1 (tCons (tOp (rI0 fun i j => .int (i + j)) (tC (.int 1)) (tDraw K (tC (.int 14)))) tNil)) (gName 3) tYes (tOp (rI0 fun i j => .bl (decide (i > j))) (tDraw K (tC (.int 3))) (tC (.int 0))) [3]) [.wl, .da (.int far), .no, .no, .no, .no] n fun ds m => ∃ cs : List Bool, ds = cs.map .bl ∧ 1 ≤ cs.length ∧ cs.length ≤ 14 ∧ m ≤ n + 15 := by
      refine o_lcP (P := fun N dd m => dd = Ly.upTo 0 ∧ N ≤ 100000 ∧ 1 ≤ N ∧ N ≤ 14 ∧ m = n + 1) (wkG_range (R := fun k m => 1 ≤ k ∧ k ≤ 14 ∧ m = n + 1) ?_) fun N dd m ⟨e1, h1, h2, h3, h4⟩ => ?_
      · refine ga_cons (R := fun ds m => ∃ k : Nat, ds = [.int (k : Int)] ∧ k ≤ 100000 ∧ 1 ≤ k ∧ k ≤ 14 ∧ m = n + 1) (fun d m => ∃ r : Int, d = .int (1 + r) ∧ 0 ≤ r ∧ r < 14 ∧ m = n + 1) ?_ fun d m ⟨r, e, r0, r1, em⟩ => ?_
        · exact g_opL d_int ((g_draw (n := n) rfl d_int (by decide) (by decide) (by omega)).imp fun d m ⟨r, e, r0, r1, em⟩ => ⟨r, .int (1 + r), e, fun _ => .int _, r, rfl, r0, r1, em⟩)
        · subst e
          exact a_nil.g ⟨(1 + r).toNat, by rw [Int.toNat_of_nonneg (by omega)], by omega, by omega, by omega, em⟩
      · subst e1
        refine ⟨h1, fun k acc n' => k ≤ N ∧ ∃ cs : List Bool, acc = cs.map .bl ∧ cs.length = k ∧ n' = n + 1 + k, ⟨Nat.zero_le _, [], rfl, rfl, h4⟩, fun k acc n' hk ⟨_, cs, ea, el, en⟩ => ?_, fun acc n' ⟨_, cs, ea, el, en⟩ => ⟨cs, ea, by omega, by omega, by omega⟩⟩
        refine ⟨[.wl, .da (.int far), .no, .da (Ly.upTo 0 k), .no, .no], true, tw_name (by decide), t_yes, fun _ => ?_, fun z => by cases z⟩
        refine g_opR (k := 0) ((g_draw (n := n') rfl d_int (by decide) (by decide) (by omega)).imp fun d m ⟨r, e, r0, r1, em⟩ => ⟨r, .bl (decide (r > 0)), e, fun _ => .bl _, ?_⟩) d_int
        exact ⟨hk, cs ++ [decide (r > 0)], by rw [ea, List.map_append]; rfl, by rw [List.length_append, el]; rfl, by omega⟩
    refine s_seq (s_setO lc fun ds m ⟨cs, e, l1, l2, hm⟩ => ?_)
    subst e
    refine s_seq (s_setItem (ds := cs.map .bl) (Rv := fun d m' => d = .bl true ∧ m' = m) rfl (d_bl.g ⟨rfl, rfl⟩) fun d m' ⟨e1, e2⟩ => ?_)
    subst e1
    subst e2
    refine (g_draw (m := (((cs.map Da.bl).length : Nat) : Int)) (n := m') rfl (d_ownLen rfl) (by rw [List.length_map]; omega) (by rw [List.length_map]; omega) (by omega)).imp fun d m2 ⟨r, e, r0, r1, em⟩ => ?_
    rw [List.length_map] at r1
    refine ⟨r.toNat, by rw [Int.toNat_of_nonneg r0]; exact e, by rw [List.length_map]; omega, ?_⟩
    have es : (cs.map Da.bl).set r.toNat (.bl true) = (cs.set r.toNat true).map .bl := by rw [List.map_set]
    rw [es]
    have hlen : (cs.set r.toNat true).length = cs.length := List.length_set
    have htr : true ∈ cs.set r.toNat true := List.mem_set (by omega) _
    generalize cs.set r.toNat true = cy at hlen htr
    refine s_seq (s_parOwn (R := fun d m3 => ∃ s : Int, d = .int s ∧ far ≤ s ∧ s ≤ far + 3 ∧ m3 = m2 + 1) (g_opL (d_var rfl) ((g_draw (n := m2) rfl d_int (by decide) (by decide) (by omega)).imp fun d m3 ⟨r, e, r0, r1, em⟩ => ⟨r, .int (far + r), e, fun _ => .int _, far + r, rfl, by omega, by omega, em⟩)) fun d m3 ⟨s0, e0, s1, s2, em3⟩ => ?_)
    subst e0
    refine s_seq (s_forP (P := fun N dd m => dd = Ly.upTo 0 ∧ N ≤ 100000 ∧ N ≤ 10 ∧ m = m3 + 1) (wkG_range (R := fun k m => k ≤ 10 ∧ m = m3 + 1) ((ga_cons (R := fun ds m => ∃ k : Nat, ds = [.int (k : Int)] ∧ k ≤ 100000 ∧ k ≤ 10 ∧ m = m3 + 1) _ (g_draw (n := m3) rfl d_int (by decide) (by decide) (by omega)) fun d m ⟨r, e, r0, r1, em⟩ => by
      subst e
      exact a_nil.g ⟨r.toNat, by rw [Int.toNat_of_nonneg r0], by omega, by omega, em⟩))) fun N dd m4 ⟨e1, h1, h2, h3⟩ => ?_)
    subst e1
    refine ⟨fun k ρ' n' => ∃ (ch : Chs) (s : Int) (x : Cell), ρ' = [.wl, .da (.int far), .own (cy.map .bl), x, .own (ch.map chD), .da (.int s)] ∧ ch.length = k ∧ Asc (far - 1) ch ∧ (∀ q ∈ ch, q.1 < s) ∧ (∀ q ∈ ch, q.1 + 2 ≤ far + 5 * (k : Int)) ∧ far ≤ s ∧ s ≤ far + 3 + 5 * (k : Int) ∧ n' = m4 + 2 * k, ⟨[], s0, .no, rfl, rfl, True.intro, (fun q h => by cases h), (fun q h => by cases h), s1, by omega, by omega⟩, fun k ρ' n' hk ⟨ch, s, x, e, el, ha, hb, hc, b1, b2, en⟩ => ?_, fun ρ' n' ⟨ch, s, x, e, el, ha, hb, hc, b1, b2, en⟩ => ?_⟩
    · subst e
      refine ⟨[.wl, .da (.int far), .own (cy.map .bl), .da (Ly.upTo 0 k), .own (ch.map chD), .da (.int s)], tg_name, ?_⟩
      refine s_seq (s_appG (i := 4) (ds := ch.map chD) (R := fun d m => ∃ b : Bool, d = chD (s, b) ∧ m = n' + 1) rfl (g_tup (R' := fun ds m => ∃ b : Bool, ds = [.int s, .bl b] ∧ m = n' + 1) (ga_cons (fun d m => d = .int s ∧ m = n') ((d_var rfl).g ⟨rfl, rfl⟩) fun d m ⟨e1, e2⟩ => ?_) fun ds m ⟨b, e, em⟩ => ⟨by rw [e]; show 2 ≤ 100000; decide, b, by rw [e]; rfl, em⟩) (by rw [List.length_map]; omega) fun d m5 ⟨b, e, em⟩ => ?_)
      · subst e1
        subst e2
        refine ga_cons (R := fun ds m' => ∃ b : Bool, Da.int s :: ds = [.int s, .bl b] ∧ m' = m + 1) (fun d m' => ∃ b : Bool, d = .bl b ∧ m' = m + 1) (g_op (fun d m' => ∃ r : Int, d = .int r ∧ m' = m + 1) ((g_draw (n := m) rfl d_int (by decide) (by decide) (by omega)).imp fun d m' ⟨r, e, r0, r1, em⟩ => ⟨r, e, em⟩) fun d m' ⟨r, e, em⟩ => d_int.g (R := fun e' m2 => ∃ z, OpD _ rEq d e' z ∧ ∃ b : Bool, z = .bl b ∧ m2 = m + 1) ⟨.bl (decide (r = 0)), by rw [e]; exact od_eqI, _, rfl, em⟩) fun d m' ⟨b, e, em⟩ => ?_
        subst e
        exact a_nil.g ⟨b, rfl, em⟩
      subst e
      refine s_setG (R := fun d m => ∃ r : Int, d = .int (s + 1 + r) ∧ 0 ≤ r ∧ r < 5 ∧ m = m5 + 1) (g_opL (d_int2 (d_var rfl) d_int) ((g_draw (n := m5) rfl d_int (by decide) (by decide) (by omega)).imp fun d m ⟨r, e, r0, r1, em⟩ => ⟨r, .int (s + 1 + r), e, fun _ => .int _, r, rfl, r0, r1, em⟩)) fun d m6 ⟨r, e, r0, r1, em6⟩ => ?_
      subst e
      refine ⟨ch ++ [(s, b)], s + 1 + r, .da (Ly.upTo 0 k), by rw [List.map_append]; rfl, by rw [List.length_append, el]; rfl, asc_put ha hb (by omega), fun q hq => ?_, fun q hq => ?_, by omega, by omega, by omega⟩
      · rcases List.mem_append.mp hq with h | h
        · have := hb q h
          omega
        · rw [List.mem_singleton.mp h]
          show s < s + 1 + r
          omega
      · rcases List.mem_append.mp hq with h | h
        · have := hc q h
          omega
        · rw [List.mem_singleton.mp h]
          show s + 2 ≤ far + 5 * ((k + 1 : Nat) : Int)
          omega
    · subst e
      refine s_ret (d_tup (a_cons (d_ownTuple rfl) (a_cons (d_ownTuple rfl) a_nil)) (by show 2 ≤ 100000; decide)) ⟨far, cy, ch, rfl, rfl, ⟨by omega, by omega, htr, by omega, ha.low (by omega)⟩, ha, fun q hq => ?_, by omega⟩
      have := hc q hq
      omega
abbrev partsD (c : List Bool) (ch : Chs) : Da := .tup [cycD c, chsD ch]
end

end Ca


set_option Elab.async false
set_option autoImplicit false
set_option linter.all false
set_option maxRecDepth 100000
set_option maxHeartbeats 4000000
namespace Ca
open PySem PySem.Spec PyProof.Rows L2 Cmb Ly Cal
section
variable {P : Program} {w : World} {K : PySem.W.Frag} {mg : Str → Option Value} {base : Heap} {f : Addr} {fd : FuncData} {C : Addr}
/-! ### _law_works -/
def SLWorks : List Da → Da → Prop := fun ds e => ∃ (c : List Bool) (ch : Chs) (s : Int), ds = [partsD c ch, .int s] ∧ 0 < c.length ∧ c.length ≤ 100000 ∧ e = .bl (works c ch s)
theorem sc_lworks : FnScope ["_law_parts_here", "_law_slot", "_law_one_here", "_law_is_on"] ["_law_parts_here", "_law_slot"] (defScope (top 32)) := ⟨rfl, rfl, rfl, by decide +kernel, rfl, by decide +kernel, by decide +kernel⟩
theorem ok_lworks (F : FnP K "_law_works" (top 32) f fd) (T : Txt K mg C) : FnOk P w K mg base CX0 1 f fd ["_law_parts_here", "_law_slot"] (spR K SLWorks) := by
  have nd := sc_lworks.nd
  refine F.ok sc_lworks (fun vs H Q E h => ?_) (fun cdv A outer s H vs Q E hr h => ?_)
  · obtain ⟨B, ds, e, _, rv, ⟨c, ch, s, rfl, _⟩, _⟩ := h
    exact rv.len
  · refine ⟨_, PSs.nox (pss_cons (ps_for PassesOwn.never rfl (pi_seq (pe_ix ix_tup (pv 0) pe_int (fun _ _ => rfl))) (pg_tup rfl (pgs_cons (pg_name (i := 2) nd rfl (Or.inl rfl)) (pgs_cons (pg_name (i := 3) nd rfl (Or.inl rfl)) pgs_nil))) (pss_one (ps_if (pt_cmpR op_eq (pv 2) (pv 1) (nomark _)) (pss_one (ps_ret (pv 3))) pss_nil)))
      (pss_one (ps_ret (pe_ix ix_tup (pe_ix ix_tup (pv 0) pe_int (fun _ _ => rfl)) (pe_op op_mod (pe_callTy call_int1 (by rfl) T.int (by decide +kernel) (pa_cons (pv 1) pa_nil)) (pe_callB call_len_seq (by rfl) T.len PySem.boot_len (pa_cons (pe_ix ix_tup (pv 0) pe_int (fun _ _ => rfl)) pa_nil))) (fun _ _ => rfl))))), ?rd⟩
    refine run_R h (fun ds e ⟨c, ch, s, e1, _⟩ => by rw [e1]; show 2 ≤ 4; decide) fun B0 H0 ds e ⟨c, ch, s, e1, h1, h2, e2⟩ => ?_
    subst e1
    subst e2
    have at0 : ∀ {ρ : List Cell}, ρ[0]? = some (.da (partsD c ch)) → EvD ⟨K, none, B0, H0⟩ (tOp (rIxT K) (tVar 0) (tC (.int 0))) ρ (cycD c) := fun z => d_ixT (ds := [cycD c, chsD ch]) (d_var z) d_int rfl
    have at1 : ∀ {ρ : List Cell}, ρ[0]? = some (.da (partsD c ch)) → EvD ⟨K, none, B0, H0⟩ (tOp (rIxT K) (tVar 0) (tC (.int 1))) ρ (chsD ch) := fun z => d_ixT (ds := [cycD c, chsD ch]) (d_var z) d_int rfl
    have hw := wk_seq (n := 0) (c := ⟨K, none, B0, H0⟩) (ρ := [.da (partsD c ch), .da (.int s), .no, .no]) (te := tOp (rIxT K) (tVar 0) (tC (.int 1))) (d := chsD ch) (ds := ch.map chD) (at1 rfl) rfl
    rw [List.length_map] at hw
    refine s_seq (s_for (N := ch.length) (dd := nth (ch.map chD)) (fun k ρ' n' => n' = 0 ∧ works c ch s = works c (ch.drop k) s ∧ ∃ x y, ρ' = [.da (partsD c ch), .da (.int s), x, y]) hw ⟨rfl, rfl, .no, .no, rfl⟩ (fun k ρ' n' hk ⟨hn, hi, x, y, e⟩ => ?_) fun ρ' n' ⟨hn, hi, x, y, e⟩ => ?_)
    · subst e
      subst hn
      rw [drop_at (0, false) hk] at hi
      refine ⟨[.da (partsD c ch), .da (.int s), .da (.int (ch.getD k (0, false)).1), .da (.bl (ch.getD k (0, false)).2)], ?_, ?_⟩
      · rw [nth_map (0, false) hk]
        exact tg_tup rfl (tgs_cons tg_name (tgs_cons tg_name tgs_nil))
      · refine s_if (t_test (d_eqI (d_var rfl) (d_var rfl))) (fun z => s_ret (d_var rfl) ?_) fun z => s_next ⟨rfl, ?_, _, _, rfl⟩
        · have z := of_decide_eq_true z
          show Da.bl _ = Da.bl _
          rw [hi]
          congr 1
          exact (if_pos z).symm
        · have z := of_decide_eq_false z
          rw [hi]
          exact if_neg z
    · subst e
      subst hn
      refine s_ret (d_ixT (ds := c.map .bl) (d := .bl (byC c s)) (at0 rfl) (d_int2c (d_int1 (d_var rfl)) (d_lenM (f := Da.bl) (l := c) (at0 rfl) rfl) ?_) ?_) ?_
      · show (0 : Int) < (c.length : Int)
        omega
      · exact atI_map (f := Da.bl) false (Int.emod_nonneg _ (by omega)) (Int.emod_lt_of_pos _ (by omega))
      · show Da.bl _ = Da.bl _
        rw [hi, List.drop_length]
        rfl
end

end Ca


set_option Elab.async false
set_option autoImplicit false
set_option linter.all false
set_option maxRecDepth 100000
set_option maxHeartbeats 4000000
namespace Ca
open PySem PySem.Spec PyProof.Rows L2 Cmb Ly Cal
section
variable {P : Program} {w : World} {K : PySem.W.Frag} {mg : Str → Option Value} {base : Heap} {f f2 : Addr} {fd fd2 : FuncData} {C : Addr}
/-! ### _law_calendar -/
def SLCal : List Da → Nat → Prop := fun ds n => ∃ (cy : List Bool) (ch : Chs), ds = [partsD cy ch] ∧ CalOk cy ch ∧ n ≤ 900000
def RLCal (C : Addr) : List Da → Nat → Da → Nat → Prop := fun ds n d n2 => ∃ (cy : List Bool) (ch : Chs), ds = [partsD cy ch] ∧ d = calD C cy ch ∧ n2 = n + 2
theorem sc_lcal : FnScope ["_law_well_here", "_law_parts_here", "_law_whole_so", "_law_more"] ["_law_well_here", "_law_parts_here"] (defScope (top 33)) := ⟨rfl, rfl, rfl, by decide +kernel, rfl, by decide +kernel, by decide +kernel⟩
abbrev tLOf (K : PySem.W.Frag) (te : TE) : TE := tCB (fun xs H Q => ∃ p ys, xs = [.ref p] ∧ (SqL K H p ys ∨ SqT K H p ys) ∧ ∀ l, H l = none → Q (.ref l) (upd H l (.lst ys))) (tCons te tNil)
theorem ok_lcal (F : FnP K "_law_calendar" (top 33) f fd) (T : Txt K mg C) (M : Mk K C f2) (Fi : FnI K f2 fd2) (Oi : FnOk P w K mg base CX0 4 f2 fd2 ["self", "cycle", "changes"] (spInit K C)) (D_law_one : Dn P w K mg base 2 "_law_one" ["_law_well_here", "_law_some"] (spW K Sone Rone)) : FnOk P w K mg base CX0 6 f fd ["_law_well_here", "_law_parts_here"] (spW K SLCal (RLCal C)) := by
  have nd := sc_lcal.nd
  refine F.ok sc_lcal (fun vs H Q E h => ?_) (fun cdv A outer s H vs Q E hr h => ?_)
  · obtain ⟨p, ws, B, ds, n, rfl, _, _, _, rv, ⟨cy, ch, e1, _⟩, _⟩ := h
    subst e1
    show ws.length + 1 = 2
    rw [rv.len]
    rfl
  · refine ⟨_, PSs.nox (pss_cons (ps_par (i := 2) (j := 3) (by rfl) nd rfl rfl (by decide) rfl rfl (pa_cons (pe_d D_law_one (hr.mono (by decide)) (pa_cons (pv 0) (pa_cons (pe_lst (pa_cons (pe_ix ix_tup (pv 1) pe_int (fun _ _ => rfl)) (pa_cons (pe_callTy call_list_of (by rfl) T.list (by decide +kernel) (pa_cons (pe_ix ix_tup (pv 1) pe_int (fun _ _ => rfl)) pa_nil)) pa_nil))) pa_nil)))
        (pa_cons (pe_d D_law_one (hr.mono (by decide)) (pa_cons (pv 0) (pa_cons (pe_lst (pa_cons (pe_ix ix_tup (pv 1) pe_int (fun _ _ => rfl)) (pa_cons (pe_callTy call_list_of (by rfl) T.list (by decide +kernel) (pa_cons (pe_ix ix_tup (pv 1) pe_int (fun _ _ => rfl)) pa_nil)) pa_nil))) pa_nil))) pa_nil)) (by rfl))
      (pss_one (ps_ret (pe_makeK (CX := CX0) (E := E0) M Oi (hr.mono (by decide)) (by rfl) T.Calendar (kb_init Fi) pass0 (pa_cons (pv 2) pa_nil) (pk_cons (pv 3) pk_nil))))), ?rd⟩
    refine run_W h (fun ds n ⟨cy, ch, e, _⟩ => by rw [e]; show 2 ≤ 4; decide) fun p B0 H0 ds n ⟨cy, ch, e, O, hn⟩ => ?_
    subst e
    have two : ∀ {ρ : List Cell} {te : TE} {m : Nat} {dt : List Da}, ρ[0]? = some .wl → EvD ⟨K, some p, B0, H0⟩ te ρ (.tup dt) → m ≤ 900001 → EvG ⟨K, some p, B0, H0⟩ (tCall (spW K Sone Rone) [] E0 (tCons (tVar 0) (tCons (tLst (tCons te (tCons (tLOf K te) tNil))) tNil))) ρ m fun d m' => d.its = some dt ∧ m' = m + 1 := fun {ρ te m dt} h0 ht hm => by
      refine (g_one (es := [.tup dt, .lst dt]) h0 (d_lst (a_cons ht (a_cons (nl_listT ht).da a_nil)) (by show 2 ≤ 100000; decide)) (by show 1 ≤ 2; decide) (by show 2 ≤ 1000000; decide) (by omega)).imp fun d m' ⟨hd, e⟩ => ⟨?_, e⟩
      rcases List.mem_cons.mp hd with z | z
      · rw [z]; rfl
      · rw [List.mem_singleton.mp z]; rfl
    refine s_seq (s_parG (Ra := fun ds m => ∃ d1 d2, ds = [d1, d2] ∧ d1.its = some (cy.map .bl) ∧ d2.its = some (ch.map chD) ∧ m = n + 2) ?_ fun ds m ⟨d1, d2, e, i1, i2, em⟩ => ⟨d1, d2, e, ?_⟩)
    · refine ga_cons (fun d m => d.its = some (cy.map .bl) ∧ m = n + 1) (two rfl (d_ixT (ds := [cycD cy, chsD ch]) (d_var rfl) d_int rfl) (by omega)) fun d m ⟨i1, em⟩ => ?_
      refine ga_cons (R := fun ds m' => ∃ d1 d2, d :: ds = [d1, d2] ∧ d1.its = some (cy.map .bl) ∧ d2.its = some (ch.map chD) ∧ m' = n + 2) (fun d m' => d.its = some (ch.map chD) ∧ m' = n + 2) ((two (m := m) rfl (d_ixT (ds := [cycD cy, chsD ch]) (d_var rfl) d_int rfl) (by omega)).imp fun d m' ⟨i2, e⟩ => ⟨i2, by omega⟩) fun d' m' ⟨i2, em'⟩ => ?_
      exact a_nil.g ⟨d, d', rfl, i1, i2, em'⟩
    · refine s_ret (d_make (C := C) (d_var rfl) (d_var rfl) i1 i2 O) ⟨cy, ch, rfl, rfl, em⟩
end

end Ca


set_option Elab.async false
set_option autoImplicit false
set_option linter.all false
set_option maxRecDepth 100000
set_option maxHeartbeats 4000000
namespace Ca
open PySem PySem.Spec PyProof.Rows L2 Cmb Ly Cal
section
variable {P : Program} {w : World} {K : PySem.W.Frag} {mg : Str → Option Value} {base : Heap} {f : Addr} {fd : FuncData} {C : Addr}
def SIsW (C : Addr) : List Da → Da → Prop := fun ds e => ∃ (c : List Bool) (ch : Chs) (s : Int), ds = [calD C c ch, .int s] ∧ true ∈ c ∧ c.length ≤ 100000 ∧ 0 ≤ s ∧ e = .bl (works c ch s)
theorem sc_is_work : FnScope ["calendar", "slot"] ["calendar", "slot"] (defScope (top 23)) := ⟨rfl, rfl, rfl, by decide +kernel, rfl, by decide +kernel, by decide +kernel⟩
theorem ok_is_work (F : FnP K "is_work" (top 23) f fd) (T : Txt K mg C) (D_need_calendar : Dn P w K mg base 1 "need_calendar" ["calendar", "part"] (spR K (SNeedC C))) (D_need_number : Dn P w K mg base 3 "need_number" ["value", "part"] (spR K SNeedN)) (D_works_at : Dn P w K mg base 2 "works_at" ["calendar", "slot"] (spR K (SWorks C))) : FnOk P w K mg base CX0 4 f fd ["calendar", "slot"] (spR K (SIsW C)) := by
  have nd := sc_is_work.nd
  refine F.ok sc_is_work (fun vs H Q E h => ?_) (fun cdv A outer s H vs Q E hr h => ?_)
  · obtain ⟨B, ds, e, _, rv, ⟨c, ch, s, rfl, _⟩, _⟩ := h
    exact rv.len
  · refine ⟨_, PSs.nox (pss_cons (ps_expr (pe_d D_need_calendar (hr.mono (by decide)) (pa_cons (pv 0) (pa_cons pe_str pa_nil))))
      (pss_cons (ps_expr (pe_d D_need_number (hr.mono (by decide)) (pa_cons (pv 1) (pa_cons pe_str pa_nil))))
      (pss_one (ps_ret (pe_d D_works_at (hr.mono (by decide)) (pa_cons (pv 0) (pa_cons (pv 1) pa_nil))))))), ?rd⟩
    refine run_R h (fun ds e ⟨c, ch, s, e1, _⟩ => by rw [e1]; show 2 ≤ 2; decide) fun B0 H0 ds e ⟨c, ch, s, e1, h1, h2, h3, e2⟩ => ?_
    subst e1
    subst e2
    have hL : 0 < c.length := List.length_pos_of_mem h1
    exact s_seq (s_drop (d_needC (d_var rfl)) (s_seq (s_drop (d_needN (d_var rfl) h3) (s_ret (d_worksAt (d_var rfl) (d_var rfl) hL h2) rfl))))
end

end Ca


set_option Elab.async false
set_option autoImplicit false
set_option linter.all false
set_option maxRecDepth 100000
set_option maxHeartbeats 4000000
namespace Ca
open PySem PySem.Spec PyProof.Rows L2 Cmb Ly Cal
/-! ### tests that draw; stores of a list's items -/
section
variable {c : Ly.Ctx} {ρ ρ' : List Cell} {n : Nat} {te : TE} {tt tu : TT} {t u : TS} {d : Da} {ds : List Da} {g : TG} {E : SE}
def EvTG (c : Ly.Ctx) (tt : TT) (ρ : List Cell) (n : Nat) (R : Bool → Nat → Prop) : Prop := ∀ B H σ, Good c B H σ ρ n → ∀ Q : Bool → Hp → Prop, (∀ b B2 H2 n2, Step c B H B2 H2 → c.J n2 H2 → R b n2 → Q b H2) → tt σ H Q
theorem EvT.tg {b : Bool} {R : Bool → Nat → Prop} (h : EvT c tt ρ b) (r : R b n) : EvTG c tt ρ n R := fun B H σ G Q q => h B H σ n G Q fun B2 H2 s j => q b B2 H2 n s j r
theorem tG_B {R' : Da → Nat → Prop} {R : Bool → Nat → Prop} (h : EvG c te ρ n R') (k : ∀ d m, R' d m → ∃ b : Bool, d = .bl b ∧ R b m) : EvTG c (tB te) ρ n R := fun B H σ G Q q => h B H σ G _ fun v d B2 H2 m s j r a => by
  obtain ⟨b, e, hR⟩ := k d m a
  subst e
  cases r
  exact ⟨b, rfl, q b B2 H2 m s j hR⟩
theorem tG_not {R : Bool → Nat → Prop} (h : EvTG c tt ρ n fun b m => R (!b) m) : EvTG c (tNot tt) ρ n R := fun B H σ G Q q => h B H σ G _ fun b B2 H2 m s j a => q (!b) B2 H2 m s j a
theorem tG_or {R' R : Bool → Nat → Prop} (h : EvTG c tt ρ n R') (h1 : ∀ m, R' true m → R true m) (h2 : ∀ m, R' false m → EvTG c tu ρ m R) : EvTG c (tOr tt tu) ρ n R := fun B H σ G Q q => h B H σ G _ fun b B1 H1 m s1 j1 a => by
  cases b with
  | true =>
    show Q true H1
    exact q true B1 H1 m s1 j1 (h1 m a)
  | false =>
    show tu σ H1 Q
    exact h2 m a B1 H1 σ (G.step s1 j1) Q fun b B2 H2 m2 s2 j2 a2 => q b B2 H2 m2 (s1.trans (J.F j1) s2) j2 a2
theorem s_ifG {R : Bool → Nat → Prop} (h : EvTG c tt ρ n R) (h1 : ∀ m, R true m → SvG c t ρ m E) (h2 : ∀ m, R false m → SvG c u ρ m E) : SvG c (tIfS tt t u) ρ n E := fun B H σ D G K =>
  h B H σ G _ fun b B1 H1 m s j a => by
    cases b with
    | true =>
      show t D σ H1
      exact h1 m a B1 H1 σ D (G.step s j) (K.up s.eb)
    | false =>
      show u D σ H1
      exact h2 m a B1 H1 σ D (G.step s j) (K.up s.eb)
theorem tg_lst {gs : TGs} {k : Nat} (hk : ds.length = k) (h : TgsD c gs ds ρ ρ') : TgD c (gLst c.K k gs) (.lst ds) ρ ρ' := fun B H σ n v G r Q q => by
  cases r with
  | lst hs hr => exact ⟨_, _, rfl, SqL.of (G.bh _ _ hs), by rw [hr.len]; exact hk, h B H σ n _ G hr Q q⟩
theorem s_asgG {R : Da → Nat → Prop} (h : EvG c te ρ n R) (k : ∀ d m, R d m → ∃ ρ', TgD c g d ρ ρ' ∧ E.nx ρ' m) : SvG c (tAsg te g) ρ n E := fun B H σ D G K =>
  h B H σ G _ fun v d B1 H1 m s j r a => by
    obtain ⟨ρ', hg, hn⟩ := k d m a
    exact hg B1 H1 σ m v (G.step s j) r _ fun σ' G' => K.nx s.eb G' hn
end

end Ca


set_option Elab.async false
set_option autoImplicit false
set_option linter.all false
set_option maxRecDepth 100000
set_option maxHeartbeats 4000000
namespace Ca
open PySem PySem.Spec PyProof.Rows L2 Cmb Ly Cal
section
variable {P : Program} {w : World} {K : PySem.W.Frag} {mg : Str → Option Value} {base : Heap} {f f2 : Addr} {fd fd2 : FuncData} {C : Addr}
/-! ### law -/
/-- list + list, both only read -/
def rCatS (K : PySem.W.Frag) : R2 := fun x y H Q => ∃ (l b : Addr) (xs zs : List V), x = .ref l ∧ y = .ref b ∧ SqL K H l xs ∧ SqL K H b zs ∧ xs.length + zs.length ≤ sizeLine ∧ ∀ p, H p = none → Q (.ref p) (upd H p (.lst (xs ++ zs)))
theorem op_catS {X : Cx} : OpR X (binaryOp .Add) (rCatS X.K) := by
  intro pins s σ H x y v u Q I rx ry h
  obtain ⟨l, b, xs, zs, rfl, rfl, hA, hB, hz, q⟩ := h
  cases rx
  cases ry
  obtain ⟨i1, r1, p1, z1⟩ := I.list hA
  obtain ⟨i2, r2, p2, z2⟩ := I.list hB
  obtain ⟨⟨c1, d1, t1, s1⟩, n1, e1, hc1, hd1, ht1⟩ := p1
  obtain ⟨⟨c2, d2, t2, s2⟩, n2, e2, hc2, hd2, ht2⟩ := p2
  simp only at hc1 hd1 ht1 hc2 hd2 ht2
  subst hc1 hd1 ht1 hc2 hd2 ht2
  have g1 : xs.length = i1.length := r1.length
  have g2 : zs.length = i2.length := r2.length
  refine concat_meets ⟨_, e1, rfl⟩ ⟨_, e2, rfl⟩ noFill_list_add seq_list_add PySem.F.slot_list_add PySem.F.entry_list_add (PySem.F.args_list_add_2 _ _)
    (list_addW l b i1.toArray i2.toArray n1 n2 none none s1 s2 (by rw [List.size_toArray, List.size_toArray]; omega)) ⟨e1, e2, ?_⟩
  have ea : i1.toArray ++ i2.toArray = (i1 ++ i2).toArray := by simp
  rw [ea]
  exact ⟨.ref _, _, I.lnew (t' := s.toks) (r1.append r2) (by rw [List.length_append]; omega), rfl, q _ I.fresh⟩
def spLaw (K : PySem.W.Frag) : Sp := fun vs H Q _ => ∃ (a : Addr) (ns : List Int), vs = [.ref a] ∧ SqL K H a (ns.map V.int) ∧ ns.length ≤ 63 ∧ ∀ H', Q (.bl true) H'
theorem cut_mem {xs : List V} {lo hi : Option Int} {v : V} (h : v ∈ cutV xs lo hi) : v ∈ xs := by
  unfold cutV at h
  exact List.mem_of_mem_drop (List.mem_of_mem_take h)
end

end Ca


set_option Elab.async false
set_option autoImplicit false
set_option linter.all false
set_option maxRecDepth 100000
set_option maxHeartbeats 4000000
namespace Ca
open PySem PySem.Spec PyProof.Rows L2 Cmb Ly Cal
section
variable {P : Program} {w : World} {K : PySem.W.Frag} {mg : Str → Option Value} {base : Heap} {f f2 : Addr} {fd fd2 : FuncData} {C : Addr}
/-! ### _law_right -/
def SRight : List Da → Nat → Prop := fun ds n => ds = [] ∧ n = 0
def RRight : List Da → Nat → Da → Nat → Prop := fun _ _ d _ => d = .bl true
theorem sc_law : FnScope ["_law_script", "_law_cell", "_law_well_here"] ["_law_script"] (defScope (top 40)) := ⟨rfl, rfl, rfl, by decide +kernel, rfl, by decide +kernel, by decide +kernel⟩
theorem ok_law (F : FnP K "law" (top 40) f fd) (T : Txt K mg C) (D_law_well : Dn P w K mg base 1 "_law_well" ["_law_cell"] spWell) (D_law_right : Dn P w K mg base 7 "_law_right" ["_law_well_here"] (spW K SRight RRight)) : FnOk P w K mg base CX0 8 f fd ["_law_script"] (spLaw K) := by
  have nd := sc_law.nd
  refine F.ok sc_law (fun vs H Q E h => ?_) (fun cdv A outer s H vs Q E hr h => ⟨_, PSs.nox (pss_cons (ps_for PassesOwn.never rfl (pi_list (pe_op op_catS (pe_slice sl_list (pv 0) po_none (po_some pe_int)) (pe_lst (pa_cons pe_int pa_nil)))) (pg_name (i := 1) nd rfl (Or.inl rfl)) (pss_cons (ps_set (i := 2) nd rfl (Or.inl rfl) (pe_d D_law_well (hr.mono (by decide)) (pa_cons (pv 1) pa_nil)))
      (pss_one (ps_if (pt_not (pt_val (pe_d D_law_right (hr.mono (by decide)) (pa_cons (pv 2) pa_nil)))) (pss_one (ps_ret pe_bl)) pss_nil))))
      (pss_one (ps_ret pe_bl))), ?_⟩)
  · obtain ⟨a, ns, rfl, _⟩ := h
    rfl
  · obtain ⟨a, ns, rfl, hS, hn, k⟩ := h
    have hlen : (ns.map V.int).length ≤ 63 := by
      rw [List.length_map]
      exact hn
    have isI : ∀ v ∈ cutV (ns.map V.int) none (some 4) ++ [V.int 0], ∃ n : Int, v = .int n := fun v hv => by
      rcases List.mem_append.mp hv with h1 | h1
      · obtain ⟨n, _, e⟩ := List.mem_map.mp (cut_mem h1)
        exact ⟨n, e.symm⟩
      · exact ⟨0, List.mem_singleton.mp h1⟩
    have clen : (cutV (ns.map V.int) none (some 4)).length ≤ 63 := Nat.le_trans (cutV_length _ _ _) hlen
    refine ⟨.ref a, rfl, 4, rfl, a, _, rfl, hS, fun c hc => ?_⟩
    have hc1 : (upd H c (.lst (cutV (ns.map V.int) none (some 4)))) c = some (.lst (cutV (ns.map V.int) none (some 4))) := upd_same
    refine ⟨Nat.le_of_lt (small1000 (by decide)), fun z hz => ⟨c, z, _, _, rfl, rfl, SqL.of (Evl.Ex.new hz _ _ hc1), SqL.of upd_same, Nat.le_of_lt (small1000 (by show (cutV (ns.map V.int) none (some 4)).length + 1 ≤ 1000; omega)), fun l hl => ?_⟩⟩
    generalize hL : cutV (ns.map V.int) none (some 4) ++ [V.int 0] = L at isI
    refine ⟨l, rfl, ⟨_, SqL.of upd_same⟩, for_it walk_list (fun i σ H' => ∃ s1 s2, σ = [some (.ref a), s1, s2] ∧ H' l = some (.lst L)) ⟨_, _, rfl, upd_same⟩
      (fun i σ H' _ ⟨_, _, _, e⟩ => SqL.of e) ?_ ?_⟩
    · rintro i x σ H1 H2 hi ⟨s1, s2, rfl, e1⟩ ⟨e2, hx⟩
      obtain ⟨n, rfl⟩ := isI x (List.mem_of_getElem? hx)
      subst e2
      refine ⟨.int n, rfl, n, rfl, fun p a b np W => ?_⟩
      have nl : l ≠ p := ne_of_none e1 np
      refine ⟨.ref p, rfl, p, [], _, [], 0, rfl, Evl.Ex.new np, np, ⟨a, b, 0, upd_same, W, by decide⟩, .nil, ⟨rfl, rfl⟩, fun v d B2 H2 n2 s w2 rv r => ?_⟩
      have r : d = .bl true := r
      subst r
      cases rv
      refine ⟨true, rfl, ?_⟩
      refine iteF ?_
      refine ⟨_, _, rfl, s.eh l _ (fun z => nl (Option.some.inj z).symm) ?_⟩
      rw [upd_ne nl]
      exact e1
    · rintro σ H1 ⟨s1, s2, rfl, e1⟩
      exact k _
end

end Ca


set_option Elab.async false
set_option autoImplicit false
set_option linter.all false
set_option maxRecDepth 100000
set_option maxHeartbeats 4000000
/-! An object that is being made: its fields one behind the other. -/
namespace Ly
open PySem PySem.Spec PyProof.Rows L2
/-- an object of one's own at x that is not data yet: what stands behind steps that change it alone -/
structure IS (x : Addr) (B H Bi Hi : Hp) (o : HO) : Prop where
  eb : Evl.Ex B Bi
  bh : Evl.Ex Bi Hi
  bx : Bi x = none
  eh : ∀ a u, a ≠ x → H a = some u → Hi a = some u
  fr : ∀ a, a ≠ x → B a = none → H a ≠ none → Bi a = none
  hx : Hi x = some o
theorem IS.start {x : Addr} {B H : Hp} {o : HO} (bh : Evl.Ex B H) (bx : B x = none) (hx : H x = some o) : IS x B H B H o := ⟨Evl.Ex.refl _, bh, bx, fun _ _ _ h => h, fun _ _ h _ => h, hx⟩
theorem IS.step {x : Addr} {B H Bi Hi Bj Hj : Hp} {o : HO} (I : IS x B H Bi Hi o) (s : Pure Bi Hi Bj Hj) : IS x B H Bj Hj o := by
  refine ⟨I.eb.trans s.eb, s.bh, s.fr x I.bx (by rw [I.hx]; exact fun z => nomatch z), fun a u n h => s.eh _ _ (I.eh a u n h), fun a n h1 h2 => ?_, s.eh _ _ I.hx⟩
  refine s.fr a (I.fr a n h1 h2) fun z => ?_
  cases q : H a with
  | none => exact h2 q
  | some u =>
    have := I.eh a u n q
    rw [z] at this
    cases this
theorem IS.set {x : Addr} {B H Bi Hi : Hp} {o o' : HO} (I : IS x B H Bi Hi o) : IS x B H Bi (upd Hi x o') o' := by
  refine ⟨I.eb, fun a u h => ?_, I.bx, fun a u n h => ?_, I.fr, upd_same⟩
  · rw [upd_ne fun z => by rw [z, I.bx] at h; cases h]
    exact I.bh _ _ h
  · rw [upd_ne n]
    exact I.eh a u n h
theorem pure_new {B H : Hp} {p : Addr} {o : HO} (bh : Evl.Ex B H) (hp : H p = none) : Pure B H (upd B p o) (upd H p o) := by
  have bp : B p = none := Evl.fresh_back bh hp
  refine ⟨Evl.Ex.new bp, fun a u h => ?_, Evl.Ex.new hp, fun a h1 h2 => ?_⟩
  · by_cases q : a = p
    · subst q
      rw [upd_same] at h
      rw [upd_same]
      exact h
    · rw [upd_ne q] at h
      rw [upd_ne q]
      exact bh a u h
  · rw [upd_ne fun z => h2 (by rw [z]; exact hp)]
    exact h1
theorem pure_refl {B H : Hp} (bh : Evl.Ex B H) : Pure B H B H := ⟨Evl.Ex.refl _, bh, Evl.Ex.refl _, fun _ h _ => h⟩
theorem raw_tup {K : PySem.W.Frag} {B H : Hp} {v : V} {d : Da} {ds : List Da} {Q : VK} (bh : Evl.Ex B H) (r : Rep K B v d) (hd : d.its = some ds) (q : ∀ v' B2 H2, Pure B H B2 H2 → Rep K B2 v' (.tup ds) → Q v' H2) : rTupOf K [v] H Q := by
  cases r with
  | lst hs hr =>
    cases hd
    exact ⟨_, _, rfl, .inl ⟨SqL.of (bh _ _ hs), fun l hl => q _ _ _ (pure_new bh hl) (.tup (SqT.of upd_same) (hr.up (pure_new bh hl).eb))⟩⟩
  | tup hs hr =>
    cases hd
    exact ⟨_, _, rfl, .inr ⟨Evl.ex_t bh hs, q _ _ _ (pure_refl bh) (.tup hs hr)⟩⟩
  | non => cases hd
  | bl b => cases hd
  | int i => cases hd
  | str s => cases hd
  | ob hb hr => cases hd
theorem raw_tupE {K : PySem.W.Frag} {B H : Hp} {v : V} {d : Da} {ds : List Da} {Q : VK} {σ : L2.St} {i : Nat} (hi : σ[i]? = some (some v)) (bh : Evl.Ex B H) (r : Rep K B v d) (hd : d.its = some ds) (q : ∀ v' B2 H2, Pure B H B2 H2 → Rep K B2 v' (.tup ds) → Q v' H2) : tCB (rTupOf K) (tCons (tVar i) tNil) σ H Q := ⟨v, hi, raw_tup bh r hd q⟩
theorem putF_next {f g : Str} {v w : V} {fs : List (Str × V)} (h : ¬ g = f) : putF f v ((g, w) :: fs) = (g, w) :: putF f v fs := by
  show (if g = f then _ else (g, w) :: putF f v fs) = _
  rw [if_neg h]
theorem putF_nil {f : Str} {v : V} : putF f v [] = [(f, v)] := rfl
end Ly


set_option Elab.async false
set_option autoImplicit false
set_option linter.all false
set_option maxRecDepth 100000
set_option maxHeartbeats 4000000
/-! Own lists: list(range(n)), f, x = [], e of two own lists, pop with an index, reverse. -/
namespace Ly
open PySem PySem.Spec PyProof.Rows L2 Cmb
open Evl (Ex)
section
variable {c : Ctx} {ρ : List Cell} {n i j : Nat} {te ta tb : TE} {tr : TA} {d e z : Da} {ds es : List Da} {E : SE} {R : Da → Nat → Prop}
theorem reps_erase {K : PySem.W.Frag} {B : Hp} : ∀ {xs : List V} {ds : List Da}, Reps K B xs ds → ∀ k, Reps K B (xs.eraseIdx k) (ds.eraseIdx k)
  | _, _, .nil, _ => .nil
  | _, _, .cons h t, 0 => t
  | _, _, .cons h t, k + 1 => .cons h (reps_erase t k)
theorem reps_rev {K : PySem.W.Frag} {B : Hp} : ∀ {xs : List V} {ds : List Da}, Reps K B xs ds → Reps K B xs.reverse ds.reverse
  | _, _, .nil => .nil
  | _, _, .cons h t => by
    rw [List.reverse_cons, List.reverse_cons]
    exact (reps_rev t).app (.cons h .nil)
def upN (n : Nat) : List Da := (List.range n).map fun (k : Nat) => Da.int (k : Int)
theorem reps_up {K : PySem.W.Frag} {B : Hp} : ∀ l : List Nat, Reps K B (l.map fun (k : Nat) => V.int (0 + (k : Int))) (l.map fun (k : Nat) => Da.int (k : Int))
  | [] => .nil
  | k :: l => .cons (by
      show Rep K B (V.int (0 + (k : Int))) (Da.int (k : Int))
      rw [Int.zero_add]
      exact .int _) (reps_up l)
/-- list(range(n)) -/
theorem nl_listRg {k : Nat} (h : EvD c ta ρ (.int (k : Int))) (hk : k ≤ 100000) : NewL c (tLstRg (tRg1 ta)) ρ (upN k) := fun B H σ n G Q q => h B H σ n G _ fun v B1 H1 s j r => by
  cases r
  refine ⟨(k : Int), rfl, RgOk.of_le (by omega) (by omega) (by omega) (by omega), fun p hp => ?_⟩
  have e : rgV 0 (k : Int) = (List.range k).map fun (i : Nat) => V.int (0 + (i : Int)) := by
    unfold rgV
    rw [Int.sub_zero, Int.toNat_natCast]
  rw [e]
  exact q B1 H1 s j _ (reps_up _) p hp
/-- f, x = [], e: two lists of one's own -/
theorem s_parOwn2 {R' : List Da → Nat → Prop} (h : EvO c te ρ n R') (k : ∀ ds m, R' ds m → E.nx ((ρ.set i (.own [])).set j (.own ds)) m) : SvG c (tPar i j (tCons (tLst tNil) (tCons te tNil))) ρ n E := fun B H σ D G K => ⟨by show 0 ≤ sizeLine; exact Nat.zero_le _, fun p hp => by
  have bp : B p = none := Evl.fresh_back G.bh hp
  have nF : ¬ c.F p := fun f => jnF G.jn p f hp
  have h0 : c.H0 p = none := by
    cases q : c.H0 p with
    | none => rfl
    | some o =>
      rw [G.eh p o nF q] at hp
      cases hp
  have no : ∀ (k : Nat) (x : Cell), ρ[k]? = some x → x.mine = true → σ[k]? ≠ some (some (V.ref p)) := fun k x h mm z => by
    obtain ⟨l, o, h1, _, _, _, h5⟩ := G.addr h mm
    rw [h1] at z
    cases z
    rw [hp] at h5
    cases h5
  have G' : Good c B (upd H p (.lst [])) σ ρ n := G.obj bp nF h0 no
  have G1 : Good c B (upd H p (.lst [])) (σ.set i (some (.ref p))) (ρ.set i (.own [])) n := G.setOwn hp .nil
  exact h B (upd H p (.lst [])) σ G' _ fun p2 xs ds B2 H2 n2 hp2 s jn b2 hx rx a => ⟨_, _, rfl, K.nx s.eb (G1.takeOwn hp2 s jn b2 hx rx) (k ds n2 a)⟩⟩
/-- xs.append(ys.pop(e)), xs and ys lists of one's own -/
theorem s_appPop (h : ρ[i]? = some (.own ds)) (h2 : ρ[j]? = some (.own es)) (ne : i ≠ j) (hv : EvG c te ρ n R) (hl : ds.length < 100000) (hle : es.length ≤ 100000) (k : ∀ d m, R d m → ∃ (r : Nat) (x : Da), d = .int (r : Int) ∧ es[r]? = some x ∧ E.nx ((ρ.set j (.own (es.eraseIdx r))).set i (.own (ds ++ [x]))) m) :
    SvG c (tDrop (tBM c.K "list" rAppend (tVar i) (tCons (tBM c.K "list" rPopAt (tVar j) (tCons te tNil)) tNil))) ρ n E := fun B H σ D G K => by
  obtain ⟨l, xs, g1, g2, g3, g4, g5, g6⟩ := G.own h
  obtain ⟨l2, ys, f1, f2, f3, f4, f5, f6⟩ := G.own h2
  refine ⟨_, g1, .inl ⟨rfl, xs, SqL.of g5⟩, _, f1, .inl ⟨rfl, ys, SqL.of f5⟩, hv B H σ G _ fun v d B1 H1 m s jn r a => ?_⟩
  have G1 := G.step s jn
  obtain ⟨rr, x, e1, hx, nx⟩ := k d m a
  subst e1
  cases r
  obtain ⟨l', ys', k1, k2, k3, k4, k5, k6⟩ := G1.own h2
  rw [f1] at k1
  cases k1
  obtain ⟨u, hu, ru⟩ := k6.get hx
  have hr : rr < es.length := (List.getElem?_eq_some_iff.mp hx).1
  have hly : ys'.length = es.length := k6.len
  refine ⟨_, ys', (rr : Int), rr, u, rfl, rfl, k5, by omega, ?_, ?_, hu, ?_⟩
  · have : (rr : Int) < 100000 := by omega
    exact Int.lt_trans this (by decide)
  · exact seqIndex_of (by omega) (by omega)
  have G2 : Good c B1 (upd H1 _ (.lst (ys'.eraseIdx rr))) σ (ρ.set j (.own (es.eraseIdx rr))) m := G1.mutOwn h2 f1 (reps_erase k6 rr)
  have h3 : (ρ.set j (.own (es.eraseIdx rr)))[i]? = some (.own ds) := by
    rw [List.getElem?_set_ne (fun z => ne z.symm)]
    exact h
  obtain ⟨l4, zs, m1, m2, m3, m4, m5, m6⟩ := G2.own h3
  rw [g1] at m1
  cases m1
  exact ⟨l, zs, u, rfl, rfl, m5, by rw [m6.len]; exact Evl.sz_lt hl, K.nx s.eb (G2.mutOwn h3 g1 (m6.app (.cons ru .nil))) nx⟩
/-- xs.reverse(), xs a list of one's own -/
theorem s_rev (h : ρ[i]? = some (.own ds)) (k : E.nx (ρ.set i (.own ds.reverse)) n) : SvG c (tDrop (tBM0 c.K "list" rReverse (tVar i))) ρ n E := fun B H σ D G K => by
  obtain ⟨l, xs, g1, g2, g3, g4, g5, g6⟩ := G.own h
  exact ⟨_, g1, .inl ⟨rfl, xs, SqL.of g5⟩, l, xs, rfl, rfl, g5, K.nx (Ex.refl _) (G.mutOwn h g1 (reps_rev g6)) k⟩
end
end Ly


set_option Elab.async false
set_option autoImplicit false
set_option linter.all false
set_option maxRecDepth 100000
set_option maxHeartbeats 4000000
/-! for .. in range(a, b), however great a and b are. -/
namespace Ly
open PySem PySem.Spec PyProof.Rows L2 Cmb
abbrev lrT : String := "longrange_iterator"
theorem lr_sub : isSubtype (.type lrT) (.type lrT) = pure true := by
  rw [isSubtype_type]
  kernel_rfl
theorem lr_iter : Slot lrT "__iter__" "longrange_iterator.__iter__" := by
  refine .of (owner := lrT) (n := "__iter__") ?_ (by decide +kernel) (by decide +kernel) (by decide +kernel) ?_ lr_sub
  · rw [typeLookup_type, builtinLookup_eq_fast]
    kernel_rfl
  · first | exact .inr (by decide +kernel) | exact .inl (by decide +kernel)
theorem lr_next : Slot lrT "__next__" "longrange_iterator.__next__" := by
  refine .of (owner := lrT) (n := "__next__") ?_ (by decide +kernel) (by decide +kernel) (by decide +kernel) ?_ lr_sub
  · rw [typeLookup_type, builtinLookup_eq_fast]
    kernel_rfl
  · first | exact .inr (by decide +kernel) | exact .inl (by decide +kernel)
theorem lr_entry_iter : entryFor table "longrange_iterator.__iter__" = some Builtin.«dict_keyiterator.__iter__» :=
  entryFor_alias (id' := "dict_keyiterator.__iter__") (by kernel_rfl) (by first | rfl | decide +kernel) (by decide +kernel) (by kernel_rfl)
theorem lr_entry_next : entryFor table "longrange_iterator.__next__" = some Builtin.«longrange_iterator.__next__» := entryFor_of_tree (by kernel_rfl)
abbrev lrO : List Char := "longrange_iterator".toList.reverse
theorem lr_owner : Manifest.owners.lookup (String.ofList lrO.reverse) = some Manifest.sig_longrange_iterator := by kernel_rfl
theorem lr_args_iter (a : Value) : argsOk "longrange_iterator.__iter__" ⟨[a], []⟩ := by
  unfold argsOk
  rw [signature?_of (id := "longrange_iterator.__iter__") (n := "__iter__".toList.reverse) (o := lrO) (by kernel_rfl) lr_owner]
  kernel_rfl
theorem lr_args_next (a : Value) : argsOk "longrange_iterator.__next__" ⟨[a], []⟩ := by
  unfold argsOk
  rw [signature?_of (id := "longrange_iterator.__next__") (n := "__next__".toList.reverse) (o := lrO) (by kernel_rfl) lr_owner]
  kernel_rfl
/-- the walker over a long range, as it stands -/
abbrev LrI (h : Heap) (it : Addr) (x left : Int) : Prop := h.get? it = some { cls := .type lrT, dict := none, data := .fields #[rawInt x, rawInt left, rawInt 1], slots := #[] }
section
variable {prog : Program} {w : World} {A : Around} {E : Value → Shared → Prop} {s : Shared}
theorem lr_start {r : Addr} {a b : Int} {t u v : Tok} {Q : Value → Shared → Prop} (hr : IsRange s.heap r a b 1 t u v) (hs : Builtin.Range.small a b 1 = false)
    (hQ : Q (.ref s.heap.objs.size) { s with heap := s.heap.push { cls := .type lrT, data := .fields #[rawInt a, rawInt (Builtin.Range.rangeSize a b 1), rawInt 1] } }) : wpAny (model prog w) A (pyIter (.ref r)) Q E s := by
  have hT : s.TypeIs (.ref r) "range" := ⟨_, hr, rfl⟩
  refine wpAny_pyIter_slot hT F.slot_range_iter (call_meets F.slot_range_iter hT F.entry_range_iter (F.args_range_iter_1 _) (AutoRange.range___iter___range_0 r a b 1 t u v ?_) ⟨hr, ?_⟩)
  · unfold Builtin.Range.small at hs
    simp only [hs, Bool.not_false]
  · unfold Builtin.Range.small at hs
    simp only [hs, Bool.false_eq_true, if_false]
    exact ⟨lrT, _, ⟨_, Heap.get?_push_size _ rfl, rfl⟩, lr_next.lookup, hQ⟩
theorem lr_self {it : Addr} {x left : Int} {Q : Value → Shared → Prop} (hit : LrI s.heap it x left) (h : Q (.ref it) s) : wpAny (model prog w) A (pyIter (.ref it)) Q E s := by
  have hT : s.TypeIs (.ref it) lrT := ⟨_, hit, rfl⟩
  refine wpAny_pyIter_slot hT lr_iter (wpAny_call_entry lr_iter hT lr_entry_iter ?_ (lr_args_iter _))
  show wpAny _ _ (ret (.ref it)) _ _ s
  exact wpAny_pure ⟨_, rfl, lrT, _, hT, lr_next.lookup, h⟩
theorem lr_meets (it : Addr) (x left : Int) (hc : ¬ left ≤ 0) :
    Meets (Builtin.«longrange_iterator.__next__» ⟨[.ref it], []⟩) (fun _ R s => s.heap.get? it = some { cls := .type "longrange_iterator", dict := none, data := .fields #[rawInt x, rawInt left, rawInt 1], slots := #[] } ∧
      R (.ok (.ret (Value.int x s.toks))) { s with heap := (s.heap.update it (Obj.mapFields fun q => q.setIfInBounds 0 (rawInt (x + 1)))).update it (Obj.mapFields fun q => q.setIfInBounds 1 (rawInt (left - 1))), toks := s.toks + 1 }) :=
  .of_wp fun prog w A R s h => by
    obtain ⟨hp, g, d, tk, os⟩ := s
    obtain ⟨hl, h⟩ := h
    wp_walk
    exact ⟨_, rfl, h⟩
theorem lr_item {it : Addr} {x left : Int} {Q : Option Value → Shared → Prop} (hit : LrI s.heap it x left) (hl : 0 < left)
    (hQ : ∀ h', LrI h' it (x + 1) (left - 1) → Heap.SameBut it s.heap h' → Q (some (.int x s.toks)) { s with heap := h', toks := s.toks + 1 }) : wpAny (model prog w) A (pyNext (.ref it)) Q E s := by
  have hT : s.TypeIs (.ref it) lrT := ⟨_, hit, rfl⟩
  unfold pyNext
  refine wpAny_bind (wpAny_attempt (wpAny_callSpecial?_slot (name := Str.ofString "__next__") hT lr_next (call_meets lr_next hT lr_entry_next (lr_args_next _) (lr_meets it x left (by omega)) ⟨hit, ?_⟩)))
  exact wpAny_pure (hQ _ (Heap.get?_update_self _ (Heap.get?_update_self _ hit rfl) rfl) ((Heap.SameBut.update ..).trans (Heap.SameBut.update ..)))
theorem lr_end {it : Addr} {x left : Int} {Q : Option Value → Shared → Prop} (hh : A.handled = none) (hit : LrI s.heap it x left) (hl : left ≤ 0)
    (hQ : ∀ h', Heap.ExtBut it s.heap h' → Q none { s with heap := h' }) : wpAny (model prog w) A (pyNext (.ref it)) Q E s := by
  have hT : s.TypeIs (.ref it) lrT := ⟨_, hit, rfl⟩
  unfold pyNext
  refine wpAny_bind (wpAny_attempt (wpAny_callSpecial?_slot (name := Str.ofString "__next__") hT lr_next (wpAny_call_entry lr_next hT lr_entry_next ?_ (lr_args_next _))))
  obtain ⟨hp, g, d, tk, os⟩ := s
  wp_walk
  simp only [raiseNew]
  refine wpAny_bind (wpAny_handled ?_)
  first | rw [show A.in1.handled = none from hh] | rw [hh]
  refine wpAny_bind (wpAny_pure (wpAny_throw ?_))
  refine wpAny_bind (wpAny_isInstance (T := "StopIteration") (b := true) ⟨_, Heap.get?_push_size _ rfl, rfl⟩ isSubtype_stop ?_)
  exact wpAny_pure (hQ _ (((Heap.ExtBut.refl it hp).push _).push _))
end
theorem lr_turn {P : Program} {w : World} {K : PySem.W.Frag} {tg : Expr} (it : Addr) (lo : Int) (n : Nat) : Turn P w K tg (Itr lo n) [it] it (fun i h => LrI h it (lo + (i : Nat)) ((n : Int) - (i : Nat))) where
  mem := List.mem_singleton.mpr rfl
  obj := fun i h st b hb => by
    obtain rfl := List.mem_singleton.mp hb
    exact ⟨_, st, fun v z => by
      have z2 : Data.fields _ = Data.cell v := z
      cases z2⟩
  keep := fun i h h' st k => k it (List.mem_singleton.mpr rfl) _ st
  item := by
    intro X e1 e2 e3 hc i pins s σ H E I hf st hg
    subst e1 e2 e3
    have hi : i < n := hg
    obtain ⟨f0, f1, f2, f3, f4, f5⟩ := hf it (List.mem_singleton.mpr rfl)
    refine lr_item st (by omega) fun h' st' hs => ?_
    have kk : ∀ b o, b ≠ it → s.heap.get? b = some o → h'.get? b = some o := fun b o hb e => hs.extBut b o hb e
    have I1 : Inv X pins σ H { s with heap := h', toks := s.toks + 1 } := I.turned kk f0 f1 f3 f4 f5
    have st2 : LrI h' it (lo + ((i + 1 : Nat) : Int)) ((n : Int) - ((i + 1 : Nat) : Int)) := by
      have q1 : lo + ((i + 1 : Nat) : Int) = lo + (i : Nat) + 1 := by omega
      have q2 : (n : Int) - ((i + 1 : Nat) : Int) = (n : Int) - (i : Nat) - 1 := by omega
      rw [q1, q2]
      exact st'
    exact ⟨_, rfl, go_of (s := { s with heap := h', toks := s.toks + 1 }) (n := lrT) st' rfl rfl (by decide) ⟨.int (lo + i), H, I1, ⟨_, rfl⟩, ⟨rfl, rfl⟩, st2, fun b hb => (hf b hb).1⟩⟩
  done := by
    intro X e1 e2 e3 hc i pins s σ H E I hf st hg
    subst e1 e2 e3
    have hi : n ≤ i := hg
    obtain ⟨f0, f1, f2, f3, f4, f5⟩ := hf it (List.mem_singleton.mpr rfl)
    exact lr_end (I.ok.hd hc) st (by omega) fun h' eb => ⟨rfl, I.turned (t' := s.toks) (fun b o hb e => eb b o hb e) f0 f1 f3 f4 f5⟩
  self := fun _ _ _ _ _ st h => lr_self st h
section
variable {X : Cx} {tg e : Expr} {te : L2.St → Hp → (Int → Int → Hp → Prop) → Prop}
theorem rg_go {pins : List (Addr × Obj)} {σ : L2.St} {H : Hp} {s : Shared} {r : Addr} {a b : Int} {t u v : Tok} {R : It → Hp → Prop} (I : Inv X pins σ H s) (hr : IsRange s.heap r a b 1 t u v) (q : R (Itr a (b - a).toNat) H) : wpAny (model X.prog X.w) X.A (pyIter (.ref r)) (PIE X pins σ tg R) X.xe s := by
  have es : Builtin.Range.rangeSize a b 1 = ((b - a).toNat : Int) := by
    rw [rangeSize_one]
    split <;> omega
  have own : ∀ b, b ∈ [s.heap.objs.size] → FpOk X pins H b := fun b hb => by
    obtain rfl := List.mem_singleton.mp hb
    exact I.fpOk (Nat.le_refl _) (I.hok.fresh (Nat.le_refl _))
  cases hs : Builtin.Range.small a b 1 with
  | true =>
    refine wpAny_pyIter_range hr hs ?_
    refine ⟨s.heap.objs.size, [s.heap.objs.size], _, _, H, rfl, I.kept (t' := s.toks) fun b o e => Heap.get?_push_of_some _ e, turn_range _ a (b - a).toNat, ?_, own, q⟩
    show IsRangeIter _ _ (a + ((0 : Nat) : Int) * 1) (((b - a).toNat : Int) - ((0 : Nat) : Int)) 1
    have q1 : a + ((0 : Nat) : Int) * 1 = a := by omega
    have q2 : ((b - a).toNat : Int) - ((0 : Nat) : Int) = Builtin.Range.rangeSize a b 1 := by omega
    rw [q1, q2]
    exact Heap.get?_push_size _ rfl
  | false =>
    refine lr_start hr hs ?_
    refine ⟨s.heap.objs.size, [s.heap.objs.size], _, _, H, rfl, I.kept (t' := s.toks) fun b o e => Heap.get?_push_of_some _ e, lr_turn _ a (b - a).toNat, ?_, own, q⟩
    show LrI _ _ (a + ((0 : Nat) : Int)) (((b - a).toNat : Int) - ((0 : Nat) : Int))
    have q1 : a + ((0 : Nat) : Int) = a := by omega
    have q2 : ((b - a).toNat : Int) - ((0 : Nat) : Int) = Builtin.Range.rangeSize a b 1 := by omega
    rw [q1, q2]
    exact Heap.get?_push_size _ rfl
def iRg (te : L2.St → Hp → (Int → Int → Hp → Prop) → Prop) : TI := fun σ H R => te σ H fun a b H1 => R (Itr a (b - a).toNat) H1
theorem pi_rg (he : PRg X e te) : PI X tg e (iRg te) := ⟨fun pins s σ H R I h => thn (he pins s σ H _ I h) fun x s1 ⟨r, a, b, t, u, v, H1, ex, hr, I1, q⟩ => by
  subst ex
  exact rg_go I1 hr q⟩
end
section
variable {c : Ctx} {ρ : List Cell} {n : Nat} {ta tb : TE}
/-- for .. in range(a, b) -/
theorem wk_rg {a b : Int} {k : Nat} (ha : EvD c ta ρ (.int a)) (hb : EvD c tb ρ (.int b)) (hk : (b - a).toNat = k) : Wk c (iRg (tRg2 ta tb)) ρ n (Just n k (upTo a)) := fun B H σ G S q => ha B H σ n G _ fun v B1 H1 s1 j1 r1 => hb B1 H1 σ n (G.step s1 j1) _ fun w B2 H2 s2 j2 r2 => by
  cases r1
  cases r2
  refine ⟨a, b, rfl, rfl, q _ k _ _ B2 H2 ⟨rfl, rfl, rfl⟩ (s1.trans (jnF j1) s2) j2 (fun H' e i => ⟨fun lt => ?_, fun ek => ?_⟩) fun H' i x H'' B' n' lt e e' j' y => ?_⟩
  · exact walk_range.goes i H' (by omega) True.intro
  · have z := (walk_range (lo := a) (n := (b - a).toNat)).stops H' True.intro
    rw [hk] at z
    rw [ek, hk]
    exact z
  · obtain ⟨e1, hx⟩ := (walk_range (lo := a)).yields i H' x H'' (by omega) True.intro y
    subst e1
    subst hx
    exact ⟨B', Step.refl e', j', .int _⟩
end
end Ly


set_option Elab.async false
set_option autoImplicit false
set_option linter.all false
set_option maxRecDepth 100000
set_option maxHeartbeats 4000000
/-! sorted of ints, lcm, max with a default, a tuple repeated, a bool in a tuple. -/
namespace Ly
open PySem PySem.Spec PyProof.Rows L2 Cmb
section
variable {X : Cx}
/-- math.lcm of two ints -/
def rLcm : List V → Hp → VK → Prop := fun vs H Q => ∃ i j : Int, vs = [.int i, .int j] ∧ 1 ≤ i ∧ i ≤ 1000 ∧ 1 ≤ j ∧ j ≤ 1000 ∧ Q (.int ((Nat.lcm i.toNat j.toNat : Nat) : Int)) H
theorem cr_lcm : CallR X (.builtin "math.lcm") rLcm := by
  intro pins s σ H vs us Q I r h
  obtain ⟨i, j, rfl, i0, i1, j0, j1, q⟩ := h
  obtain ⟨t, u, rfl⟩ := Vals.int2 r
  have e : (((Nat.lcm 1 i.natAbs).lcm j.natAbs : Nat) : Int) = ((Nat.lcm i.toNat j.toNat : Nat) : Int) := by
    rw [Nat.lcm_one_left, show i.natAbs = i.toNat by omega, show j.natAbs = j.toNat by omega]
  have le : Nat.lcm i.toNat j.toNat ≤ 1000 * 1000 := Nat.le_trans (Nat.le_of_dvd (Nat.mul_pos (by omega) (by omega)) (Nat.lcm_dvd_mul _ _)) (Nat.mul_le_mul (by omega) (by omega))
  refine PySem.W.mg_lcm_v (by omega) (by omega) e ?_ ⟨.int _, H, I.tok _, ⟨_, rfl⟩, q⟩
  rw [Int.natAbs_natCast]
  refine Nat.lt_of_le_of_lt (m := 20) ?_ (by decide)
  by_cases z : Nat.lcm i.toNat j.toNat = 0
  · rw [z]
    decide
  · have := (Nat.log2_lt z (k := 21)).mpr (by omega)
    omega
/-- a tuple taken once: itself -/
theorem mul_once (l : Addr) (items : Array Value) (n : Nat) (dd : Option Addr) (sl : Array (Option Value)) (u : Tok) :
    Meets (Builtin.«tuple.__mul__» ⟨[.ref l, .int 1 u], []⟩) (fun _ R s => s.heap.get? l = some { cls := .type "tuple", dict := dd, data := .seq items n, slots := sl } ∧ R (.ok (.ret (.ref l))) s) :=
  .of_wp fun prog w A R s h => by
    obtain ⟨hp, g, d, tk, os⟩ := s
    obtain ⟨hl, h⟩ := h
    have f1 := AutoSeq1.idx_int
    wp_walk using wpAny_loadPart' hl
    exact ⟨_, rfl, h⟩
/-- tuple * int from 1 on -/
def rRepA (K : PySem.W.Frag) : R2 := fun x y H Q => rRepT K x y H Q ∨ ∃ (l : Addr) (xs : List V), x = .ref l ∧ y = .int 1 ∧ SqT K H l xs ∧ Q (.ref l) H
theorem op_repA : OpR X (binaryOp .Mult) (rRepA X.K) := by
  intro pins s σ H x y v u Q I rx ry h
  rcases h with h | ⟨l, xs, e1, e2, hT, q⟩
  · exact op_repT pins s σ H x y v u Q I rx ry h
  · subst e1 e2
    cases rx
    obtain ⟨t, rfl⟩ := ry
    obtain ⟨its, r, ⟨⟨oc, od, dt, os⟩, ho, c1, n, d1⟩, hs⟩ := I.tuple hT
    have c1 : oc = .type "tuple" := c1
    have d1 : dt = .seq its.toArray n := d1
    subst c1 d1
    refine wpAny_binaryOp_repeat_ref (T := "tuple") (U := "int") (by decide) ⟨_, ho, rfl⟩ (fun s' => typeIs_int s' 1 t) noFill_tuple_mul F.fills_int_mul F.slot_int_rmul repeat_tuple F.slot_int_index.lookup ?_
    refine call_meets F.slot_int_rmul (typeIs_int s 1 t) F.entry_int_rmul (F.args_int_rmul_2 _ _) (int_rmul_tuple 1 t l its.toArray n od os) ⟨ho, rfl, ⟨_, ho, rfl⟩, ?_⟩
    exact call_meets F.slot_tuple_mul ⟨_, ho, rfl⟩ F.entry_tuple_mul (F.args_tuple_mul_2 _ _) (mul_once l its.toArray n od os t) ⟨ho, .ref l, H, I, rfl, q⟩
/-- max of a list of ints, with a default -/
def rMaxDf (K : PySem.W.Frag) : List V → List V → Hp → VK → Prop := fun vs zs H Q => ∃ (a : Addr) (ns : List Int) (d : Int), vs = [V.ref a] ∧ zs = [V.int d] ∧ SqL K H a (ns.map V.int) ∧ (ns = [] → Q (.int d) H) ∧ ∀ m, m ∈ ns → (∀ y, y ∈ ns → y ≤ m) → Q (.int m) H
theorem reads_intL (h : Heap) : ∀ {vs : List Value} {xs : List Int}, IntsAre vs xs → ReadsAll h vs (xs.map PyData.int) []
  | _, _, .nil => .nil
  | _, _, .cons n t r => .cons (.int n t) (reads_intL h r)
theorem reads_intV {h : Heap} {n : Int} : ∀ {v : Value} {as : List Addr}, Reads h v (.int n) as → ∃ t, v = .int n t
  | _, _, .int _ t => ⟨t, rfl⟩
theorem depth_ints : ∀ xs : List Int, PyData.depthAll (xs.map PyData.int) ≤ 1
  | [] => by
    show PyData.depthAll [] ≤ 1
    unfold PyData.depthAll
    exact Nat.zero_le _
  | x :: xs => by
    have := depth_ints xs
    show PyData.depthAll (PyData.int x :: xs.map PyData.int) ≤ 1
    unfold PyData.depthAll
    refine Nat.max_le.mpr ⟨?_, this⟩
    unfold PyData.depth
    decide
theorem cr_maxDf (hc : X.calm = true) (hu : X.A.units + 64 < cLine) : CallRK X (.builtin "max") [Str.ofString "default"] (rMaxDf X.K) := by
  intro pins s σ H vs zs us ws Q I r rz h
  obtain ⟨a, ns, d, rfl, rfl, hs, q0, q⟩ := h
  obtain ⟨its, rv, hl, hz⟩ := I.list hs
  rw [Vals.ref1 r]
  obtain ⟨w1, rfl, e1⟩ := vals1 rz
  obtain ⟨td, rfl⟩ := e1
  have hr : ReadsAll s.heap its.toArray.toList (ns.map PyData.int) [] := by
    rw [show its.toArray.toList = its from rfl]
    exact reads_intL _ rv.ints
  have dp := depth_ints ns
  refine PySem.W.max_list_default (I.ok.hd hc) hl.isList hr (PySem.W.alikeAll_datum (α := Int) ns) (by show X.A.units + 1 + _ < _; omega) (fun e h' tk k => ?_) fun y ys i v h' tk bs e hi rd k => ?_
  · have e : ns = [] := List.map_eq_nil_iff.mp e
    exact ⟨.int d, H, I.kept k, ⟨_, rfl⟩, q0 e⟩
  · cases ns with
    | nil => cases e
    | cons x xs =>
      obtain ⟨rfl, rfl⟩ := List.cons.inj e
      rw [PySem.W.maxD_ints] at rd
      obtain ⟨t, rfl⟩ := reads_intV rd
      obtain ⟨f1, f2, f3⟩ := PySem.W.Mm.fold_max xs x
      refine ⟨.int _, H, I.kept k, ⟨_, rfl⟩, q _ ?_ fun y hy => ?_⟩
      · rcases f1 with e | e
        · rw [e]
          exact List.mem_cons_self
        · exact List.mem_cons_of_mem _ e
      · rcases List.mem_cons.mp hy with e | e
        · rw [e]
          exact f2
        · exact f3 y e
end
/-! ### over data -/
def srtI (l : List Int) : List Int := l.mergeSort fun a b => decide (a ≤ b)
theorem srtI_perm (l : List Int) : (srtI l).Perm l := List.mergeSort_perm l _
theorem srtI_asc (l : List Int) : (srtI l).Pairwise (· ≤ ·) := (List.pairwise_mergeSort (le := fun a b : Int => decide (a ≤ b)) (fun a b c h k => by simp at h k ⊢; omega) (fun a b => by simp; omega) l).imp fun h => by simpa using h
theorem srtI_uni {l m : List Int} (h : m.Perm l) (s : m.Pairwise (· ≤ ·)) : m = srtI l := List.Perm.eq_of_pairwise (fun a b _ _ h1 h2 => Int.le_antisymm h1 h2) s (srtI_asc l) (h.trans (srtI_perm l).symm)
theorem reps_ints {K : PySem.W.Frag} {B : Hp} : ∀ l : List Int, Reps K B (l.map V.int) (l.map Da.int)
  | [] => .nil
  | _ :: l => .cons (.int _) (reps_ints l)
section
variable {c : Ctx} {ρ : List Cell} {n i : Nat} {te ta tb : TE} {tr : TA} {d e : Da} {ds es : List Da}
theorem d_sortedI {l : List Int} (h : EvD c te ρ (.lst (l.map .int))) : EvD c (tCB (rSortedI c.K) (tCons te tNil)) ρ (.lst ((srtI l).map .int)) := fun B H σ n G Q q => h B H σ n G _ fun v B1 H1 s j r => by
  cases r with
  | @lst a xs _ hs hr =>
    have e := reps_int hr
    subst e
    refine ⟨a, l, rfl, SqL.of (s.bh _ _ hs), fun ns p hp hpw hn => ?_⟩
    rw [srtI_uni hp hpw]
    have st := pure_new (o := .lst ((srtI l).map V.int)) s.bh hn
    exact q _ _ _ (s.trans (jnF j) st.step) (J.up j st.eh) (.lst upd_same ((reps_ints _)))
theorem rep_reps {K : PySem.W.Frag} {B : Hp} {xs : List V} {ds : List Da} (r : Reps K B xs ds) : ∀ m : Nat, Reps K B (List.replicate m xs).flatten (List.replicate m ds).flatten
  | 0 => .nil
  | m + 1 => by
    rw [List.replicate_succ, List.replicate_succ, List.flatten_cons, List.flatten_cons]
    exact r.app (rep_reps r m)
theorem d_repA {k : Nat} (ha : EvD c ta ρ (.tup ds)) (hb : EvD c tb ρ (.int (k : Int))) (h0 : 1 ≤ k) (h1 : k ≤ 1000) (hn : ds ≠ []) (hl : ds.length ≤ 1000) : EvD c (tOp (rRepA c.K) ta tb) ρ (.tup (List.replicate k ds).flatten) := d_op ha hb fun B H v w n bh jn rv rw Q q => by
  cases rw
  have rv0 := rv
  cases rv with
  | @tup a xs _ hs hr =>
    have hlen := hr.len
    by_cases z : k = 1
    · subst z
      refine .inr ⟨_, _, rfl, rfl, Evl.ex_t bh hs, q _ B H (Step.refl bh) jn ?_⟩
      have e : (List.replicate 1 ds).flatten = ds := by simp
      rw [e]
      exact rv0
    · refine .inl ⟨_, (k : Int), _, rfl, rfl, Evl.ex_t bh hs, fun z => ?_, by omega, by omega, by omega, fun p hp => ?_⟩
      · subst z
        cases hr
        exact hn rfl
      · rw [Int.toNat_natCast]
        have s := pure_new (o := .tup (List.replicate k xs).flatten) bh hp
        exact q _ _ _ s.step (J.up jn s.eh) (.tup (SqT.of upd_same) ((rep_reps hr k).up s.eb))
theorem d_lcm {x y : Int} (ha : EvD c ta ρ (.int x)) (hb : EvD c tb ρ (.int y)) (x0 : 1 ≤ x) (x1 : x ≤ 1000) (y0 : 1 ≤ y) (y1 : y ≤ 1000) : EvD c (tCB rLcm (tCons ta (tCons tb tNil))) ρ (.int ((Nat.lcm x.toNat y.toNat : Nat) : Int)) := fun B H σ n G Q q =>
  ha B H σ n G _ fun v B1 H1 s j r => hb B1 H1 σ n (G.step s j) _ fun w B2 H2 s2 j2 r2 => by
    cases r
    cases r2
    exact ⟨x, y, rfl, x0, x1, y0, y1, q _ B2 H2 (s.trans (jnF j) s2) j2 (.int _)⟩
theorem d_maxDf {l : List Int} {z m : Int} (ha : EvD c ta ρ (.lst (l.map .int))) (hb : EvD c tb ρ (.int z)) (h0 : l = [] → m = z) (h1 : l ≠ [] → m ∈ l ∧ ∀ y, y ∈ l → y ≤ m) : EvD c (tCKw (rMaxDf c.K) (tCons ta tNil) (tCons tb tNil)) ρ (.int m) := fun B H σ n G Q q =>
  ha B H σ n G _ fun v B1 H1 s j r => hb B1 H1 σ n (G.step s j) _ fun w B2 H2 s2 j2 r2 => by
    cases r2
    cases r with
    | @lst a xs _ hs hr =>
      have e := reps_int hr
      subst e
      refine ⟨a, l, z, rfl, rfl, SqL.of (s2.bh _ _ (s2.eb _ _ hs)), fun e => ?_, fun k hk hu => ?_⟩
      · rw [← h0 e]
        exact q _ B2 H2 (s.trans (jnF j) s2) j2 (.int _)
      · obtain ⟨f1, f2⟩ := h1 fun z => by rw [z] at hk; cases hk
        have ek : k = m := by
          have a := f2 k hk
          have b := hu m f1
          omega
        rw [ek]
        exact q _ B2 H2 (s.trans (jnF j) s2) j2 (.int _)
theorem d_minL {l : List Int} {m : Int} (ha : EvD c ta ρ (.lst (l.map .int))) (h1 : m ∈ l) (h2 : ∀ y, y ∈ l → m ≤ y) : EvD c (tCB (rMin c.K) (tCons ta tNil)) ρ (.int m) := fun B H σ n G Q q => ha B H σ n G _ fun v B1 H1 s j r => by
  cases r with
  | @lst a xs _ hs hr =>
    have e := reps_int hr
    subst e
    refine ⟨a, l, rfl, SqL.of (s.bh _ _ hs), List.length_pos_of_mem h1, fun k hk hu => ?_⟩
    have ek : k = m := by
      have a := h2 k hk
      have b := hu m h1
      omega
    rw [ek]
    exact q _ B1 H1 s j (.int _)
theorem od_inB {b : Bool} {l : List Bool} (h : d.its = some (l.map .bl)) : OpD c (rIn c.K false) (.bl b) d (.bl (decide (b ∈ l))) := fun B H v w n bh jn rv rw' Q q => by
  cases rv
  obtain ⟨a, xs, rfl, hs, hr⟩ := rw'.sq bh h
  have e := reps_bl hr
  subst e
  have fl : (l.map V.bl).all flatV = true := by
    rw [List.all_map]
    exact List.all_eq_true.mpr fun _ _ => rfl
  refine ⟨a, _, rfl, hs, rfl, fl, ?_⟩
  have eb : ∀ x y : Bool, eqV (V.bl x) (V.bl y) = decide (x = y) := fun x y => by cases x <;> cases y <;> decide
  have e : (if false = true then !inV (.bl b) (l.map V.bl) else inV (.bl b) (l.map V.bl)) = decide (b ∈ l) := by
    show inV (.bl b) (l.map V.bl) = _
    unfold inV
    rw [List.any_map]
    clear hs hr h q fl
    induction l with
    | nil => rfl
    | cons x l ih =>
      rw [List.any_cons, ih]
      show (eqV (V.bl x) (V.bl b) || decide (b ∈ l)) = _
      rw [eb]
      cases x <;> cases b <;> simp
  rw [e]
  exact q _ B H (Step.refl bh) jn (.bl _)
end
end Ly


set_option Elab.async false
set_option autoImplicit false
set_option linter.all false
set_option maxRecDepth 100000
set_option maxHeartbeats 4000000
/-! Calendars: periods of a cycle, from where on a calendar repeats itself, the first slot at which two differ, and a calendar that is moved. -/
namespace Cal
/-! ### periods -/
theorem byC_turn (c : List Bool) (s k : Int) : byC c (s + k * (c.length : Int)) = byC c s := by
  unfold byC
  rw [Int.add_mul_emod_self_right]
theorem byC_at (c : List Bool) {k : Nat} (h : k < c.length) : byC c (k : Int) = c.getD k false := by
  unfold byC
  rw [Int.emod_eq_of_lt (by omega) (by omega)]
  rfl
theorem byC_mod (c : List Bool) (s : Int) : byC c s = byC c (s % (c.length : Int)) := by
  unfold byC
  rw [Int.emod_emod]
def Per (c : List Bool) (m : Nat) : Prop := ∀ s : Int, byC c (s + m) = byC c s
theorem per_len (c : List Bool) : Per c c.length := fun s => by
  have := byC_turn c s 1
  rwa [Int.one_mul] at this
theorem per_mul {c : List Bool} {m : Nat} (h : Per c m) : ∀ (k : Nat) (s : Int), byC c (s + k * m) = byC c s
  | 0, s => by
    rw [Int.natCast_zero, Int.zero_mul, Int.add_zero]
  | k + 1, s => by
    have e : s + ((k + 1 : Nat) : Int) * m = (s + k * m) + m := by
      rw [Int.natCast_add, Int.add_mul]
      omega
    rw [e, h, per_mul h k s]
theorem per_sub {c : List Bool} {m n : Nat} (hm : Per c m) (hn : Per c n) (l : m ≤ n) : Per c (n - m) := fun s => by
  have e1 := hm (s + (n - m : Nat))
  have e2 : s + ((n - m : Nat) : Int) + m = s + n := by omega
  rw [e2, hn] at e1
  exact e1.symm
theorem per_mod {c : List Bool} {m n : Nat} (hm : Per c m) (hn : Per c n) : Per c (n % m) := fun s => by
  have e1 := per_mul hm (n / m) (s + (n % m : Nat))
  have e2 : s + ((n % m : Nat) : Int) + ((n / m : Nat) : Int) * m = s + n := by
    have := Nat.mod_add_div n m
    have h2 : ((n % m : Nat) : Int) + (m : Int) * ((n / m : Nat) : Int) = n := by exact_mod_cast this
    rw [Int.mul_comm] at h2
    omega
  rw [e2, hn] at e1
  exact e1.symm
theorem cyc_ext {c d : List Bool} (hl : c.length = d.length) (h : ∀ k, k < c.length → c.getD k false = d.getD k false) : c = d := by
  refine List.ext_getElem hl fun k h1 h2 => ?_
  have := h k h1
  rw [List.getD_eq_getElem?_getD, List.getElem?_eq_getElem h1, List.getD_eq_getElem?_getD, List.getElem?_eq_getElem h2] at this
  exact this
theorem rot_at (c : List Bool) {m k : Nat} (hm : m ≤ c.length) (hk : k < c.length) : (c.drop m ++ c.take m).getD k false = byC c ((k + m : Nat) : Int) := by
  rw [List.getD_eq_getElem?_getD]
  by_cases q : k + m < c.length
  · rw [List.getElem?_append_left (by rw [List.length_drop]; omega), List.getElem?_drop, byC_at c q, List.getD_eq_getElem?_getD, Nat.add_comm]
  · have e : ((k + m : Nat) : Int) = ((k + m - c.length : Nat) : Int) + 1 * (c.length : Int) := by omega
    rw [List.getElem?_append_right (by rw [List.length_drop]; omega), List.length_drop, e, byC_turn, byC_at c (by omega), List.getD_eq_getElem?_getD, List.getElem?_take_of_lt (by omega)]
    congr 2
    omega
def isRot (c : List Bool) (m : Nat) : Bool := c.drop m ++ c.take m == c
theorem isRot_per (c : List Bool) {m : Nat} (hm : m ≤ c.length) : isRot c m = true ↔ Per c m := by
  unfold isRot
  rw [beq_iff_eq]
  constructor
  · intro h s
    by_cases z : c.length = 0
    · have : c = [] := List.length_eq_zero_iff.mp z
      subst this
      have : m = 0 := by simp at hm; exact hm
      subst this
      rw [Int.natCast_zero, Int.add_zero]
    have hL : 0 < c.length := by omega
    have b0 := Int.emod_nonneg s (show (c.length : Int) ≠ 0 by omega)
    have b1 := Int.emod_lt_of_pos s (show (0 : Int) < (c.length : Int) by omega)
    generalize hr : s % (c.length : Int) = r at b0 b1
    have e1 : byC c s = byC c ((r.toNat : Nat) : Int) := by
      rw [byC_mod, hr, Int.toNat_of_nonneg b0]
    have e2 : byC c (s + m) = byC c ((r.toNat + m : Nat) : Int) := by
      rw [byC_mod c (s + m), byC_mod c ((r.toNat + m : Nat) : Int), Int.natCast_add, Int.toNat_of_nonneg b0, ← hr]
      congr 1
      exact (Int.emod_add_emod _ _ _).symm
    have hk : r.toNat < c.length := by omega
    rw [e1, e2, ← rot_at c hm hk, byC_at c hk, h]
  · intro h
    refine cyc_ext (by simp; omega) fun k hk => ?_
    have hk : k < c.length := by simp at hk; omega
    rw [rot_at c hm hk, ← byC_at c hk, Int.natCast_add]
    exact h k
def isRep (c : List Bool) (m : Nat) : Bool := c == (List.replicate (c.length / m) (c.take m)).flatten
theorem rep_at {α : Type} (d : α) (l : List α) : ∀ (n k : Nat), k < n * l.length → (List.replicate n l).flatten.getD k d = l.getD (k % l.length) d
  | 0, k, h => by rw [Nat.zero_mul] at h; exact absurd h (Nat.not_lt_zero _)
  | n + 1, k, h => by
    rw [List.replicate_succ, List.flatten_cons, List.getD_eq_getElem?_getD]
    by_cases q : k < l.length
    · rw [List.getElem?_append_left q, Nat.mod_eq_of_lt q, List.getD_eq_getElem?_getD]
    · have hl : 0 < l.length := by
        refine Nat.pos_of_ne_zero fun z => ?_
        rw [z, Nat.mul_zero] at h
        omega
      rw [List.getElem?_append_right (by omega), ← List.getD_eq_getElem?_getD, rep_at d l n (k - l.length) (by rw [Nat.succ_mul] at h; omega), Nat.mod_eq_sub_mod (by omega : k ≥ l.length)]
theorem rep_len {α : Type} (l : List α) (n : Nat) : (List.replicate n l).flatten.length = n * l.length := by
  simp
theorem isRep_per (c : List Bool) {m : Nat} (h1 : 1 ≤ m) (hm : m ≤ c.length) : isRep c m = true ↔ m ∣ c.length ∧ Per c m := by
  have tl : (c.take m).length = m := by rw [List.length_take]; omega
  unfold isRep
  rw [beq_iff_eq]
  constructor
  · intro h
    have hl : c.length = c.length / m * m := by
      have := congrArg List.length h
      rw [rep_len, tl] at this
      exact this
    refine ⟨⟨c.length / m, by rw [Nat.mul_comm]; exact hl⟩, ?_⟩
    rw [← isRot_per c hm]
    unfold isRot
    rw [beq_iff_eq]
    refine cyc_ext (by simp; omega) fun k hk => ?_
    have hk : k < c.length := by simp at hk; omega
    have ev : ∀ j, j < c.length → c.getD j false = c.getD (j % m) false := fun j hj => by
      have z := rep_at false (c.take m) (c.length / m) j (by rw [tl]; omega)
      rw [← h, tl] at z
      rw [z, List.getD_eq_getElem?_getD, List.getElem?_take_of_lt (Nat.mod_lt _ (by omega)), ← List.getD_eq_getElem?_getD]
    rw [rot_at c hm hk]
    by_cases q : k + m < c.length
    · rw [byC_at c q, ev _ q, Nat.add_mod_right, ← ev _ hk]
    · have e : ((k + m : Nat) : Int) = ((k + m - c.length : Nat) : Int) + 1 * (c.length : Int) := by omega
      rw [e, byC_turn, byC_at c (by omega), ev _ (by omega : k + m - c.length < c.length), ev k hk]
      congr 1
      have z : k + m = (k + m - c.length) + c.length / m * m := by omega
      have z2 : (k + m) % m = ((k + m - c.length) + c.length / m * m) % m := by rw [← z]
      rw [Nat.add_mod_right, Nat.add_mul_mod_self_right] at z2
      exact z2.symm
  · rintro ⟨⟨q, hq⟩, hp⟩
    have hl : c.length / m * m = c.length := by
      rw [hq, Nat.mul_div_cancel_left _ (by omega), Nat.mul_comm]
    refine cyc_ext (by rw [rep_len, tl, hl]) fun k hk => ?_
    rw [rep_at false (c.take m) _ k (by rw [tl, hl]; exact hk), tl, List.getD_eq_getElem?_getD (l := c.take m), List.getElem?_take_of_lt (Nat.mod_lt _ (by omega)), ← List.getD_eq_getElem?_getD]
    have := per_mul hp (k / m) ((k % m : Nat) : Int)
    have e : ((k % m : Nat) : Int) + ((k / m : Nat) : Int) * m = (k : Int) := by
      have := Nat.mod_add_div k m
      have h2 : ((k % m : Nat) : Int) + (m : Int) * ((k / m : Nat) : Int) = k := by exact_mod_cast this
      rw [Int.mul_comm] at h2
      exact h2
    rw [e, byC_at c hk, byC_at c (Nat.lt_of_le_of_lt (Nat.mod_le _ _) hk)] at this
    exact this
/-- the law's periods and the program's -/
def rots (c : List Bool) : List Nat := ((List.range c.length).filter fun k => isRot c (k + 1)).map (· + 1)
def reps (c : List Bool) : List Nat := ((List.range c.length).filter fun k => isRep c (k + 1)).map (· + 1)
def perd (c : List Bool) : Nat := (rots c).headD 0
theorem filter_first {p : Nat → Bool} : ∀ {n k : Nat}, k < n → p k = true → (∀ j, j < k → p j = false) → ∃ r, (List.range n).filter p = k :: r ∧ ∀ j ∈ r, k < j := by
  intro n k hk hp hj
  have e : n = k + (n - k) := by omega
  rw [e, List.range_add, List.filter_append]
  have e1 : (List.range k).filter p = [] := List.filter_eq_nil_iff.mpr fun j h => by
    rw [hj j (List.mem_range.mp h)]
    decide
  have e2 : n - k = (n - k - 1) + 1 := by omega
  rw [e1, List.nil_append, e2, List.range_succ_eq_map, List.map_cons, Nat.add_zero, List.filter_cons_of_pos hp]
  refine ⟨_, rfl, fun j h => ?_⟩
  obtain ⟨x, hx, ex⟩ := List.mem_map.mp (List.mem_filter.mp h).1
  obtain ⟨y, hy, ey⟩ := List.mem_map.mp hx
  omega
theorem least_nat {p : Nat → Prop} [DecidablePred p] : ∀ n, p n → ∃ k, k ≤ n ∧ p k ∧ ∀ j, j < k → ¬ p j := by
  intro n
  induction n using Nat.strongRecOn with
  | _ n ih =>
    intro h
    by_cases q : ∃ j, j < n ∧ p j
    · obtain ⟨j, hj, pj⟩ := q
      obtain ⟨k, a, b, c⟩ := ih j hj pj
      exact ⟨k, by omega, b, c⟩
    · exact ⟨n, Nat.le_refl _, h, fun j hj pj => q ⟨j, hj, pj⟩⟩
theorem per_ok {c : List Bool} (hL : 0 < c.length) : 1 ≤ perd c ∧ perd c ≤ c.length ∧ Per c (perd c) ∧ (∃ r, rots c = perd c :: r) ∧ ∃ r, reps c = perd c :: r ∧ ∀ j ∈ r, perd c < j := by
  obtain ⟨k, k1, k2, k3⟩ := least_nat (p := fun k => isRot c (k + 1) = true) (c.length - 1) (by
    show isRot c (c.length - 1 + 1) = true
    rw [Nat.sub_add_cancel hL, isRot_per c (Nat.le_refl _)]
    exact per_len c)
  have k3 : ∀ j, j < k → isRot c (j + 1) = false := fun j hj => by
    have := k3 j hj
    cases h : isRot c (j + 1) with
    | false => rfl
    | true => exact absurd h this
  have hk : k < c.length := by omega
  have P := (isRot_per c (show k + 1 ≤ c.length by omega)).mp k2
  obtain ⟨r, e, _⟩ := filter_first hk k2 k3
  have ep : perd c = k + 1 := by
    unfold perd rots
    rw [e]
    rfl
  have dv : (k + 1) ∣ c.length := by
    refine Nat.dvd_of_mod_eq_zero (Nat.eq_zero_of_not_pos fun z => ?_)
    have lt := Nat.mod_lt c.length (show k + 1 > 0 by omega)
    have pm := per_mod P (per_len c)
    have := k3 (c.length % (k + 1) - 1) (by omega)
    have h2 : isRot c (c.length % (k + 1) - 1 + 1) = true := (isRot_per c (by omega)).mpr (by rw [Nat.sub_add_cancel z]; exact pm)
    rw [this] at h2
    cases h2
  have q2 : isRep c (k + 1) = true := (isRep_per c (by omega) (by omega)).mpr ⟨dv, P⟩
  have q3 : ∀ j, j < k → isRep c (j + 1) = false := fun j hj => by
    cases h : isRep c (j + 1) with
    | false => rfl
    | true =>
      have := (isRot_per c (show j + 1 ≤ c.length by omega)).mpr ((isRep_per c (by omega) (by omega)).mp h).2
      rw [k3 j hj] at this
      cases this
  obtain ⟨r2, e2, m2⟩ := filter_first hk q2 q3
  refine ⟨by omega, by omega, by rw [ep]; exact P, ⟨r.map (· + 1), by rw [ep]; unfold rots; rw [e]; rfl⟩, r2.map (· + 1), by rw [ep]; unfold reps; rw [e2]; rfl, fun j hj => ?_⟩
  obtain ⟨x, hx, ex⟩ := List.mem_map.mp hj
  have := m2 x hx
  omega
/-! ### from where on a calendar repeats itself -/
def others (c : List Bool) (ch : Chs) : Chs := ch.filter fun q => decide (gain c q.1 q.2 ≠ 0)
theorem gain_ne (c : List Bool) (s : Int) (w : Bool) : gain c s w ≠ 0 ↔ w ≠ byC c s := by
  unfold gain b2
  cases w <;> cases byC c s <;> simp
/-- from where on: the slot behind the last one that is told otherwise than by the cycle -/
def firstT (c : List Bool) : Chs → Int → Int
  | [], x => x
  | q :: r, x => firstT c r (if q.2 ≠ byC c q.1 then q.1 + 1 else x)
theorem firstT_others (c : List Bool) : ∀ (ch : Chs) (x : Int), firstT c ch x = ((others c ch).map fun q => q.1 + 1).getLastD x
  | [], x => rfl
  | q :: r, x => by
    unfold others
    show firstT c r _ = _
    by_cases h : q.2 ≠ byC c q.1
    · rw [if_pos h, List.filter_cons_of_pos (by simpa using (gain_ne c q.1 q.2).mpr h), List.map_cons, firstT_others c r]
      unfold others
      rw [List.getLastD_cons]
    · rw [if_neg h, List.filter_cons_of_neg (by simpa using fun z => h ((gain_ne c q.1 q.2).mp z)), firstT_others c r]
      rfl
theorem firstT_ge (c : List Bool) : ∀ {ch : Chs} {lo x : Int}, Asc lo ch → x ≤ lo + 1 → ∀ q ∈ ch, q.2 ≠ byC c q.1 → q.1 + 1 ≤ firstT c ch x
  | [], _, _, _, _, q, h, _ => by cases h
  | p :: r, lo, x, A, hx, q, h, hq => by
    have base : ∀ {ch : Chs} {lo x : Int}, Asc lo ch → x ≤ lo + 1 → x ≤ firstT c ch x := by
      intro ch
      induction ch with
      | nil => exact fun _ _ => Int.le_refl _
      | cons p r ih =>
        intro lo x A hx
        show x ≤ firstT c r _
        by_cases h : p.2 ≠ byC c p.1
        · rw [if_pos h]
          have := ih (x := p.1 + 1) A.2 (by omega)
          have := A.1
          omega
        · rw [if_neg h]
          exact ih A.2 (by have := A.1; omega)
    show q.1 + 1 ≤ firstT c r _
    rcases List.mem_cons.mp h with e | m
    · subst e
      rw [if_pos hq]
      exact base A.2 (by omega)
    · refine firstT_ge c A.2 ?_ q m hq
      have := A.1
      by_cases h : p.2 ≠ byC c p.1
      · rw [if_pos h]; omega
      · rw [if_neg h]; omega
theorem firstT_at (c : List Bool) : ∀ (ch : Chs) (x : Int), firstT c ch x = x ∨ ∃ q ∈ ch, q.2 ≠ byC c q.1 ∧ firstT c ch x = q.1 + 1
  | [], x => .inl rfl
  | p :: r, x => by
    show firstT c r _ = x ∨ _
    by_cases h : p.2 ≠ byC c p.1
    · rcases firstT_at c r (p.1 + 1) with e | ⟨q, m, hq, e⟩
      · exact .inr ⟨p, List.mem_cons_self, h, by show firstT c r _ = _; rw [if_pos h, e]⟩
      · exact .inr ⟨q, List.mem_cons_of_mem _ m, hq, by show firstT c r _ = _; rw [if_pos h, e]⟩
    · rw [if_neg h]
      rcases firstT_at c r x with e | ⟨q, m, hq, e⟩
      · exact .inl e
      · exact .inr ⟨q, List.mem_cons_of_mem _ m, hq, by show firstT c r _ = _; rw [if_neg h, e]⟩
theorem works_in (c : List Bool) : ∀ {ch : Chs} {lo : Int}, Asc lo ch → ∀ q ∈ ch, works c ch q.1 = q.2
  | [], _, _, q, h => by cases h
  | p :: r, lo, A, q, h => by
    unfold works
    rcases List.mem_cons.mp h with e | m
    · subst e
      rw [if_pos rfl]
    · have := Asc.lt A.2 q m
      rw [if_neg (by omega)]
      exact works_in c A.2 q m
theorem works_cases (c : List Bool) {ch : Chs} {lo : Int} (A : Asc lo ch) (s : Int) : (∃ q ∈ ch, q.1 = s ∧ works c ch s = q.2) ∨ ((∀ q ∈ ch, q.1 ≠ s) ∧ works c ch s = byC c s) := by
  by_cases h : ∃ q ∈ ch, q.1 = s
  · obtain ⟨q, m, e⟩ := h
    subst e
    exact .inl ⟨q, m, rfl, works_in c A q m⟩
  · have h : ∀ q ∈ ch, q.1 ≠ s := fun q m e => h ⟨q, m, e⟩
    exact .inr ⟨h, works_not c h⟩
theorem works_far (c : List Bool) {ch : Chs} (A : Asc (-1) ch) {s : Int} (h : firstT c ch 0 ≤ s) : works c ch s = byC c s := by
  rcases works_cases c A s with ⟨q, m, e, w⟩ | ⟨_, w⟩
  · rw [w]
    refine Classical.byContradiction fun z => ?_
    rw [← e] at z
    have := firstT_ge c A (x := 0) (by decide) q m z
    omega
  · exact w
/-- what the law asks of the told turn -/
theorem turn_right (c : List Bool) {ch : Chs} (A : Asc (-1) ch) (hL : 0 < c.length) : (∀ s, firstT c ch 0 ≤ s → works c ch s = works c ch (s + perd c)) ∧ (firstT c ch 0 = 0 ∨ works c ch (firstT c ch 0 - 1) ≠ works c ch (firstT c ch 0 - 1 + perd c)) := by
  obtain ⟨p1, _, P, _⟩ := per_ok hL
  refine ⟨fun s h => ?_, ?_⟩
  · rw [works_far c A h, works_far c A (by omega), P]
  · rcases firstT_at c ch 0 with e | ⟨q, m, hq, e⟩
    · exact .inl e
    · refine .inr ?_
      rw [works_far c A (s := firstT c ch 0 - 1 + perd c) (by omega), P, e, Int.add_sub_cancel, works_in c A q m]
      exact hq
/-! ### moved -/
def mvC (c : List Bool) (m : Int) : List Bool := (List.range c.length).map fun (k : Nat) => byC c ((k : Int) + m)
def mvCh (ch : Chs) (m : Int) : Chs := (ch.filter fun q => decide (m ≤ q.1)).map fun q => (q.1 - m, q.2)
theorem mvC_len (c : List Bool) (m : Int) : (mvC c m).length = c.length := by simp [mvC]
theorem mvC_at (c : List Bool) (hL : 0 < c.length) (m s : Int) : byC (mvC c m) s = byC c (s + m) := by
  have b0 := Int.emod_nonneg s (show (c.length : Int) ≠ 0 by omega)
  have b1 := Int.emod_lt_of_pos s (show (0 : Int) < (c.length : Int) by omega)
  unfold byC
  rw [mvC_len]
  generalize hr : s % (c.length : Int) = r at b0 b1
  have hk : r.toNat < c.length := by omega
  unfold mvC
  rw [List.getD_eq_getElem?_getD, List.getElem?_map, List.getElem?_range hk]
  show byC c ((r.toNat : Int) + m) = _
  unfold byC
  rw [Int.toNat_of_nonneg b0, ← hr, Int.add_emod (s % _), Int.emod_emod, ← Int.add_emod]
theorem mvC_true {c : List Bool} (h : true ∈ c) (m : Int) : true ∈ mvC c m := by
  obtain ⟨k, hk, e⟩ := List.getElem_of_mem h
  have hL : 0 < c.length := by omega
  have z : byC (mvC c m) ((k : Int) - m) = true := by
    rw [mvC_at c hL, Int.sub_add_cancel, byC_at c hk, List.getD_eq_getElem?_getD, List.getElem?_eq_getElem hk]
    exact e
  unfold byC at z
  rw [List.getD_eq_getElem?_getD] at z
  generalize hi : (((k : Int) - m) % ((mvC c m).length : Int)).toNat = i at z
  cases q : (mvC c m)[i]? with
  | none => rw [q] at z; cases z
  | some b =>
    rw [q] at z
    have z : b = true := z
    rw [z] at q
    exact List.mem_of_getElem? q
theorem mvCh_asc : ∀ {ch : Chs} {lo m lo' : Int}, Asc lo ch → lo' < 0 → Asc lo' (mvCh ch m)
  | [], _, _, _, _, _ => True.intro
  | q :: r, lo, m, lo', A, h => by
    unfold mvCh
    by_cases k : m ≤ q.1
    · rw [List.filter_cons_of_pos (by simpa using k), List.map_cons]
      refine ⟨by show lo' < q.1 - m; omega, ?_⟩
      have all : ∀ {r : Chs} {lo : Int}, Asc lo r → m ≤ lo → Asc (lo - m) ((r.filter fun q => decide (m ≤ q.1)).map fun q => (q.1 - m, q.2)) := by
        intro r
        induction r with
        | nil => exact fun _ _ => True.intro
        | cons p r ih =>
          intro lo A hm
          have a1 := A.1
          rw [List.filter_cons_of_pos (by simp; omega), List.map_cons]
          exact ⟨by show lo - m < p.1 - m; omega, ih A.2 (by omega)⟩
      exact all A.2 k
    · rw [List.filter_cons_of_neg (by simpa using k)]
      exact mvCh_asc (ch := r) A.2 h
theorem mvCh_len (ch : Chs) (m : Int) : (mvCh ch m).length ≤ ch.length := by
  unfold mvCh
  rw [List.length_map]
  exact List.length_filter_le _ _
theorem moved_works (c : List Bool) {ch : Chs} {m s : Int} (A : Asc (-1) ch) (hL : 0 < c.length) (hs : 0 ≤ s) : works (mvC c m) (mvCh ch m) s = works c ch (s + m) := by
  rcases works_cases (mvC c m) (mvCh_asc A (m := m) (lo' := -1) (by decide)) s with ⟨q, h, e, w⟩ | ⟨h, w⟩
  · unfold mvCh at h
    obtain ⟨p, hp, ep⟩ := List.mem_map.mp h
    subst ep
    rw [w, ← works_in c A p (List.mem_filter.mp hp).1]
    congr 1
    have e : p.1 - m = s := e
    omega
  · rw [w, mvC_at c hL]
    refine (works_not c fun q hq e => ?_).symm
    refine h (q.1 - m, q.2) (List.mem_map.mpr ⟨q, List.mem_filter.mpr ⟨hq, by simp; omega⟩, rfl⟩) ?_
    show q.1 - m = s
    omega
theorem moved_0 {c : List Bool} {ch : Chs} (A : Asc (-1) ch) : mvC c 0 = c ∧ mvCh ch 0 = ch := by
  constructor
  · refine cyc_ext (mvC_len c 0) fun k hk => ?_
    rw [mvC_len] at hk
    unfold mvC
    rw [List.getD_eq_getElem?_getD, List.getElem?_map, List.getElem?_range hk]
    show byC c ((k : Int) + 0) = _
    rw [Int.add_zero, byC_at c hk]
  · unfold mvCh
    rw [List.filter_eq_self.mpr fun q hq => by have := Asc.lt A q hq; simp; omega]
    conv => rhs; rw [← List.map_id ch]
    refine List.map_congr_left fun q _ => ?_
    show (q.1 - 0, q.2) = q
    rw [Int.sub_zero]
/-! ### the first difference -/
def dif (c1 : List Bool) (h1 : Chs) (c2 : List Bool) (h2 : Chs) (s : Int) : Bool := works c1 h1 s != works c2 h2 s
def fstIn (D : Int → Bool) : List Int → Option Int
  | [] => none
  | x :: r => if D x = true then some x else fstIn D r
theorem fst_none {D : Int → Bool} : ∀ {l : List Int}, (∀ x ∈ l, D x = false) → fstIn D l = none
  | [], _ => rfl
  | x :: r, h => by
    unfold fstIn
    rw [if_neg (by rw [h x List.mem_cons_self]; decide)]
    exact fst_none fun y hy => h y (List.mem_cons_of_mem _ hy)
theorem fst_app {D : Int → Bool} : ∀ {l r : List Int}, (∀ x ∈ l, D x = false) → fstIn D (l ++ r) = fstIn D r
  | [], _, _ => rfl
  | x :: l, r, h => by
    show (if D x = true then some x else fstIn D (l ++ r)) = _
    rw [if_neg (by rw [h x List.mem_cons_self]; decide)]
    exact fst_app fun y hy => h y (List.mem_cons_of_mem _ hy)
theorem fst_hit {D : Int → Bool} {l r : List Int} {m : Int} (hl : ∀ x ∈ l, D x = false) (hm : D m = true) : fstIn D (l ++ m :: r) = some m := by
  rw [fst_app hl]
  exact if_pos hm
theorem fst_left {D : Int → Bool} {m : Int} : ∀ {l r : List Int}, fstIn D l = some m → fstIn D (l ++ r) = some m
  | [], _, h => by cases h
  | x :: l, r, h => by
    show (if D x = true then some x else fstIn D (l ++ r)) = _
    unfold fstIn at h
    by_cases q : D x = true
    · rw [if_pos q] at h ⊢
      exact h
    · rw [if_neg q] at h ⊢
      exact fst_left h
/-- ascending, and the least that is so stands in it -/
theorem fst_asc {D : Int → Bool} {m : Int} (hm : D m = true) (least : ∀ s, 0 ≤ s → s < m → D s = false) : ∀ {l : List Int}, l.Pairwise (· ≤ ·) → (∀ x ∈ l, 0 ≤ x) → m ∈ l → fstIn D l = some m
  | [], _, _, h => by cases h
  | x :: r, p, h0, h => by
    unfold fstIn
    by_cases q : D x = true
    · rw [if_pos q]
      congr 1
      have x0 := h0 x List.mem_cons_self
      have : ¬ x < m := fun z => by rw [least x x0 z] at q; cases q
      rcases List.mem_cons.mp h with e | e
      · exact e.symm
      · have := (List.pairwise_cons.mp p).1 m e
        omega
    · rw [if_neg q]
      rcases List.mem_cons.mp h with e | e
      · rw [← e] at q
        exact absurd hm q
      · exact fst_asc hm least (List.pairwise_cons.mp p).2 (fun y hy => h0 y (List.mem_cons_of_mem _ hy)) e
def rngI (a : Int) (n : Nat) : List Int := (List.range n).map fun (k : Nat) => a + (k : Int)
theorem rngI_mem {a x : Int} {n : Nat} : x ∈ rngI a n ↔ a ≤ x ∧ x < a + n := by
  unfold rngI
  rw [List.mem_map]
  constructor
  · rintro ⟨k, hk, e⟩
    have := List.mem_range.mp hk
    omega
  · rintro ⟨h1, h2⟩
    exact ⟨(x - a).toNat, List.mem_range.mpr (by omega), by omega⟩
theorem rngI_asc (a : Int) (n : Nat) : (rngI a n).Pairwise (· ≤ ·) := by
  unfold rngI
  rw [List.pairwise_map]
  exact List.pairwise_lt_range.imp fun h => by omega
/-- the program's way: from 0 and from each change on a whole turn -/
def progD (D : Int → Bool) (T : Nat) : List Int → Option Int
  | [] => none
  | a :: r => match fstIn D (rngI a (T + 1)) with
    | some m => some m
    | none => progD D T r
theorem prog_none {D : Int → Bool} {T : Nat} (h : ∀ s, 0 ≤ s → D s = false) : ∀ {l : List Int}, (∀ x ∈ l, 0 ≤ x) → progD D T l = none
  | [], _ => rfl
  | a :: r, h0 => by
    unfold progD
    rw [fst_none fun x hx => h x (by have := rngI_mem.mp hx; have := h0 a List.mem_cons_self; omega)]
    exact prog_none h fun y hy => h0 y (List.mem_cons_of_mem _ hy)
theorem prog_asc {D : Int → Bool} {T : Nat} {m : Int} (hm : D m = true) (least : ∀ s, 0 ≤ s → s < m → D s = false) : ∀ {l : List Int}, l.Pairwise (· ≤ ·) → (∀ x ∈ l, 0 ≤ x) → (∃ a ∈ l, a ≤ m ∧ m ≤ a + T) → progD D T l = some m
  | [], _, _, ⟨a, h, _⟩ => by cases h
  | x :: r, p, h0, ⟨a, h, h1, h2⟩ => by
    have x0 := h0 x List.mem_cons_self
    have xm : x ≤ m := by
      rcases List.mem_cons.mp h with e | e
      · omega
      · have := (List.pairwise_cons.mp p).1 a e
        omega
    unfold progD
    by_cases q : m ≤ x + T
    · rw [fst_asc hm least (rngI_asc _ _) (fun y hy => by have := rngI_mem.mp hy; omega) (rngI_mem.mpr ⟨xm, by omega⟩)]
    · rw [fst_none fun y hy => least y (by have := rngI_mem.mp hy; omega) (by have := rngI_mem.mp hy; omega)]
      rcases List.mem_cons.mp h with e | e
      · subst e
        exact absurd h2 q
      · exact prog_asc hm least (List.pairwise_cons.mp p).2 (fun y hy => h0 y (List.mem_cons_of_mem _ hy)) ⟨a, e, h1, h2⟩
/-- what both ways lean on: off the changes two calendars differ as their cycles do, and a turn changes nothing -/
structure DOk (D : Int → Bool) (told : List Int) (T : Nat) : Prop where
  asc : told.Pairwise (· ≤ ·)
  nn : ∀ x ∈ told, 0 ≤ x
  T1 : 1 ≤ T
  per : ∀ (s : Int) (k : Int), s ∉ told → (s + k * T) ∉ told → D (s + k * T) = D s
theorem least_int {D : Int → Bool} (h : ∃ s, 0 ≤ s ∧ D s = true) : ∃ m, 0 ≤ m ∧ D m = true ∧ ∀ s, 0 ≤ s → s < m → D s = false := by
  obtain ⟨s, s0, hs⟩ := h
  obtain ⟨k, _, k2, k3⟩ := least_nat (p := fun k : Nat => D (k : Int) = true) s.toNat (by show D _ = true; rw [Int.toNat_of_nonneg s0]; exact hs)
  refine ⟨k, by omega, k2, fun x x0 hx => ?_⟩
  have := k3 x.toNat (by omega)
  rw [Int.toNat_of_nonneg x0] at this
  cases q : D x with
  | false => rfl
  | true => exact absurd q this
theorem last_le : ∀ {l : List Int} {m : Int}, l.Pairwise (· ≤ ·) → (∃ a ∈ l, a ≤ m) → ∃ a ∈ l, a ≤ m ∧ ∀ x ∈ l, x ≤ m → x ≤ a
  | [], _, _, ⟨a, h, _⟩ => by cases h
  | x :: r, m, p, ⟨a, h, ha⟩ => by
    by_cases q : ∃ b ∈ r, b ≤ m
    · obtain ⟨b, hb, b1, b2⟩ := last_le (List.pairwise_cons.mp p).2 q
      refine ⟨b, List.mem_cons_of_mem _ hb, b1, fun y hy ym => ?_⟩
      rcases List.mem_cons.mp hy with e | e
      · rw [e]
        exact (List.pairwise_cons.mp p).1 b hb
      · exact b2 y e ym
    · have xm : x ≤ m := by
        rcases List.mem_cons.mp h with e | e
        · omega
        · exact absurd ⟨a, e, ha⟩ q
      refine ⟨x, List.mem_cons_self, xm, fun y hy ym => ?_⟩
      rcases List.mem_cons.mp hy with e | e
      · omega
      · exact absurd ⟨y, e, ym⟩ q
theorem dif_prog {D : Int → Bool} {told : List Int} {T : Nat} (O : DOk D told T) {m : Int} (m0 : 0 ≤ m) (hm : D m = true) (least : ∀ s, 0 ≤ s → s < m → D s = false) : progD D T (0 :: told) = some m := by
  have pw : (0 :: told).Pairwise (· ≤ ·) := List.pairwise_cons.mpr ⟨O.nn, O.asc⟩
  have nn : ∀ x ∈ (0 : Int) :: told, 0 ≤ x := fun x hx => by
    rcases List.mem_cons.mp hx with e | e
    · omega
    · exact O.nn x e
  obtain ⟨a, ha, a1, a2⟩ := last_le pw ⟨0, List.mem_cons_self, m0⟩
  refine prog_asc hm least pw nn ⟨a, ha, a1, Classical.byContradiction fun z => ?_⟩
  have a0 := nn a ha
  have n1 : m ∉ told := fun h => by
    have := a2 m (List.mem_cons_of_mem _ h) (Int.le_refl _)
    have := O.T1
    omega
  have n2 : (m + (-1) * (T : Int)) ∉ told := fun h => by
    have := a2 _ (List.mem_cons_of_mem _ h) (by omega)
    omega
  have := O.per m (-1) n1 n2
  rw [hm, least (m + (-1) * (T : Int)) (by omega) (by have := O.T1; omega)] at this
  cases this
/-- a window free of changes among the first slots -/
def Free (told : List Int) (T : Nat) : Prop := ∃ a : Int, 0 ≤ a ∧ a + T ≤ 420 ∧ ∀ x ∈ told, x < a ∨ a + T ≤ x
theorem dif_law {D : Int → Bool} {told : List Int} {T : Nat} (O : DOk D told T) (fr : Free told T ∨ ∀ s, s ∉ told → D s = false) {m : Int} (m0 : 0 ≤ m) (hm : D m = true) (least : ∀ s, 0 ≤ s → s < m → D s = false) : fstIn D (rngI 0 420 ++ told) = some m := by
  by_cases q : m < 420
  · exact fst_left (fst_asc hm least (rngI_asc _ _) (fun y hy => by have := rngI_mem.mp hy; omega) (rngI_mem.mpr ⟨m0, by omega⟩))
  · rw [fst_app fun y hy => least y (by have := rngI_mem.mp hy; omega) (by have := rngI_mem.mp hy; omega)]
    refine fst_asc hm least O.asc O.nn (Classical.byContradiction fun n1 => ?_)
    rcases fr with ⟨a, a0, a1, a2⟩ | h
    · have T1 := O.T1
      have b0 := Int.emod_nonneg (m - a) (show (T : Int) ≠ 0 by omega)
      have b1 := Int.emod_lt_of_pos (m - a) (show (0 : Int) < (T : Int) by omega)
      have e : m + (-((m - a) / (T : Int))) * (T : Int) = a + (m - a) % (T : Int) := by
        have := Int.emod_add_mul_ediv (m - a) (T : Int)
        rw [Int.neg_mul, Int.mul_comm]
        omega
      have n2 : (m + (-((m - a) / (T : Int))) * (T : Int)) ∉ told := fun h => by
        have := a2 _ h
        omega
      have := O.per m _ n1 n2
      rw [hm, e, least _ (by omega) (by omega)] at this
      cases this
    · rw [h m n1] at hm
      cases hm
theorem dif_both {D : Int → Bool} {told : List Int} {T : Nat} (O : DOk D told T) (fr : Free told T ∨ ∀ s, s ∉ told → D s = false) : progD D T (0 :: told) = fstIn D (rngI 0 420 ++ told) := by
  by_cases h : ∃ s, 0 ≤ s ∧ D s = true
  · obtain ⟨m, m0, hm, least⟩ := least_int h
    rw [dif_prog O m0 hm least, dif_law O fr m0 hm least]
  · have h : ∀ s, 0 ≤ s → D s = false := fun s s0 => by
      cases q : D s with
      | false => rfl
      | true => exact absurd ⟨s, s0, q⟩ h
    rw [prog_none h (l := 0 :: told) fun x hx => by
      rcases List.mem_cons.mp hx with e | e
      · omega
      · exact O.nn x e, fst_none fun x hx => ?_]
    rcases List.mem_append.mp hx with e | e
    · exact h x (by have := rngI_mem.mp e; omega)
    · exact h x (O.nn x e)
end Cal


set_option Elab.async false
set_option autoImplicit false
set_option linter.all false
set_option maxRecDepth 100000
set_option maxHeartbeats 4000000
namespace Ca
open PySem PySem.Spec PyProof.Rows L2 Cmb Ly Cal
section
variable {c : Ly.Ctx} {ρ : List Cell} {ta tb : TE} {d : Da} {ds es : List Da}
/-! ### equality of cycles; slices; sums of tuples -/
theorem eqvAll_bool : ∀ a b : List Bool, PyData.eqvAll (a.map .bool) (b.map .bool) = (a == b)
  | [], [] => by simp [PyData.eqvAll]
  | [], y :: b => by simp [PyData.eqvAll]
  | x :: a, [] => by simp [PyData.eqvAll]
  | x :: a, y :: b => by
    have e : PyData.eqv (.bool x) (.bool y) = (x == y) := by cases x <;> cases y <;> simp [PyData.eqv]
    rw [List.map_cons, List.map_cons]
    simp only [PyData.eqvAll]
    rw [e, eqvAll_bool a b]
    rfl
theorem cyc_eqv (a b : List Bool) : PyData.eqv (cycP a) (cycP b) = (a == b) := by
  unfold cycP
  simp only [PyData.eqv]
  exact eqvAll_bool a b
theorem d_cutTo {k : Nat} (h : EvD c ta ρ (.tup ds)) (hk : EvD c tb ρ (.int (k : Int))) : EvD c (tSl (rSlA c.K) ta tNoPart (tPart tb)) ρ (.tup (ds.take k)) := (d_sliceT h p_none (p_some hk)).eq (by
  congr 1
  unfold Ly.cutD
  rw [HT.sIx_none, HT.sIx_nat, List.drop_zero, Nat.sub_zero]
  by_cases q : k ≤ ds.length
  · rw [Nat.min_eq_left q]
  · rw [Nat.min_eq_right (by omega), List.take_of_length_le (Nat.le_refl _), List.take_of_length_le (by omega)])
theorem d_cutOff {k : Nat} (h : EvD c ta ρ (.tup ds)) (hk : EvD c tb ρ (.int (k : Int))) : EvD c (tSl (rSlA c.K) ta (tPart tb) tNoPart) ρ (.tup (ds.drop k)) := (d_sliceT h (p_some hk) p_none).eq (by
  congr 1
  unfold Ly.cutD
  rw [HT.sIx_none, HT.sIx_nat]
  by_cases q : k ≤ ds.length
  · rw [Nat.min_eq_left q, List.take_of_length_le (by rw [List.length_drop]; exact Nat.le_refl _)]
  · rw [Nat.min_eq_right (by omega), List.drop_of_length_le (Nat.le_refl _), List.drop_of_length_le (by omega), List.take_nil])
theorem d_catT (ha : EvD c ta ρ (.tup ds)) (hb : EvD c tb ρ (.tup es)) (hl : ds.length + es.length ≤ 100000) : EvD c (tOp (rCatA c.K) ta tb) ρ (.tup (ds ++ es)) := d_op ha hb fun B H v w n bh jn rv rw Q q => by
  have rv0 := rv
  have rw0 := rw
  cases rv with
  | @tup a xs _ hs hr =>
    cases rw with
    | @tup b ys _ hs2 hr2 =>
      have l1 := hr.len
      have l2 := hr2.len
      refine ⟨_, _, _, _, rfl, rfl, Evl.ex_t bh hs, Evl.ex_t bh hs2, by rw [l1, l2]; exact big hl, fun z => ?_, fun _ z => ?_, fun _ _ p hp => ?_⟩
      · subst z
        cases hr
        exact q _ _ _ (Step.refl bh) jn rw0
      · subst z
        cases hr2
        rw [List.append_nil] at q
        exact q _ _ _ (Step.refl bh) jn rv0
      · have s := pure_new (o := .tup (xs ++ ys)) bh hp
        exact q _ _ _ s.step (J.up jn s.eh) (.tup (SqT.of upd_same) ((hr.app hr2).up s.eb))
end
section
variable {P : Program} {w : World} {K : PySem.W.Frag} {mg : Str → Option Value} {base : Heap} {f : Addr} {fd : FuncData} {C : Addr}
/-! ### least_period -/
def SLeast : List Da → Da → Prop := fun ds e => ∃ c : List Bool, ds = [cycD c] ∧ 1 ≤ c.length ∧ c.length ≤ 14 ∧ e = .int (perd c : Int)
theorem sc_least : FnScope ["cycle", "many", "part"] ["cycle"] (defScope (top 22)) := ⟨rfl, rfl, rfl, by decide +kernel, rfl, by decide +kernel, by decide +kernel⟩
abbrev tRep (K : PySem.W.Frag) : TE := tOp (rRepA K) (tSl (rSlA K) (tVar 0) tNoPart (tPart (tVar 2))) (tOp (rI CDiv fun i j => .int (i / j)) (tVar 1) (tVar 2))
abbrev iUp : TI := iRng2 (tCons (tC (.int 1)) (tCons (tOp (rI0 fun i j => .int (i + j)) (tVar 1) (tC (.int 1))) tNil))
theorem ok_least (F : FnP K "least_period" (top 22) f fd) (T : Txt K mg C) (g_min : mg "min" = none) : FnOk P w K mg base CX0 1 f fd ["cycle"] (spR K SLeast) := by
  have nd := sc_least.nd
  refine F.ok sc_least (fun vs H Q E h => ?_) (fun cdv A outer s H vs Q E hr h => ?_)
  · obtain ⟨B, ds, e, _, rv, ⟨c, rfl, _⟩, _⟩ := h
    exact rv.len
  · refine ⟨_, PSs.nox (pss_cons (ps_set (i := 1) nd rfl (Or.inr rfl) (pe_callB call_len_seq (by rfl) T.len PySem.boot_len (pa_cons (pv 0) pa_nil)))
      (pss_one (ps_ret (pe_callB (cr_min rfl) (by rfl) g_min (by decide +kernel) (pa_cons (pe_lc (own := [("part", 2)]) (wi := iUp) (g := gName 2) (tt := tTest (tOp (rEqD K) (tVar 0) (tRep K))) (te := tVar 2) rfl nd ?hi (blkOk_by (own := [("part", 2)]) (N := ["cycle", "many", "part"]) (sc := defScope (top 22)) (by decide +kernel)) ?hg ?ht ?he) pa_nil))))), ?rd⟩
    case hi => exact pi_range2 (by rfl) T.range (pa_cons pe_int (pa_cons (pe_op op_add (pv 1) pe_int) pa_nil))
    case hg => exact fun _ _ _ _ _ => pg_name (i := 2) nd rfl (Or.inl rfl)
    case ht => exact fun _ _ _ _ _ => pts_one (pt_cmpR (op_eqD hr.units) (pv 0) (pe_op op_repA (pe_slice sl_tupA (pv 0) po_none (po_some (pv 2))) (pe_op op_fdiv (pv 1) (pv 2))) (nomark _))
    case he => exact fun _ _ _ _ _ => pv 2
    refine run_R h (fun ds e ⟨c, e1, _⟩ => by rw [e1]; show 1 ≤ 3; decide) fun B0 H0 ds e ⟨c, e1, h1, h2, e2⟩ => ?_
    subst e1
    subst e2
    refine s_seq (s_set (d_lenM (f := Da.bl) (l := c) (d_var rfl) rfl) ?_)
    have lc : ∀ n, EvO ⟨K, none, B0, H0⟩ (tLc iUp (gName 2) (tTest (tOp (rEqD K) (tVar 0) (tRep K))) (tVar 2) [2]) [.da (cycD c), .da (.int (c.length : Int)), .no] n fun ds m => ds = ((reps c).map fun (k : Nat) => (k : Int)).map Da.int ∧ m = n := fun n => by
      have hw := wk_range2 (n := n) (c := ⟨K, none, B0, H0⟩) (ρ := [.da (cycD c), .da (.int (c.length : Int)), .no]) (tr := tCons (tC (.int 1)) (tCons (tOp (rI0 fun i j => .int (i + j)) (tVar 1) (tC (.int 1))) tNil)) (lo := 1) (k := c.length) (hi := (c.length : Int) + 1) (a_cons d_int (a_cons (d_int2 (d_var rfl) d_int) a_nil)) (.inl (by omega)) (by omega) ⟨by decide, by decide⟩ (by omega)
      have z := o_lcK (c := ⟨K, none, B0, H0⟩) (ρ := [.da (cycD c), .da (.int (c.length : Int)), .no]) (n := n) (wi := iUp) (g := gName 2) (tt := tTest (tOp (rEqD K) (tVar 0) (tRep K))) (te := tVar 2) (vs := [2]) (N := c.length) (dd := upTo 1) (ρ2 := fun k => [.da (cycD c), .da (.int (c.length : Int)), .da (.int (1 + (k : Int)))]) (b := fun k => isRep c (k + 1)) (el := fun k => .int (1 + (k : Int))) hw (by omega) (fun k hk => tw_name (by decide)) (fun k hk => ?_) (fun k hk _ => d_var rfl)
      · have e : ((List.range c.length).filter fun k => isRep c (k + 1)).map (fun k : Nat => Da.int (1 + (k : Int))) = ((reps c).map fun (k : Nat) => (k : Int)).map Da.int := by
          unfold reps
          rw [List.map_map, List.map_map]
          refine List.map_congr_left fun k _ => ?_
          show Da.int _ = Da.int ((k + 1 : Nat) : Int)
          rw [Int.natCast_add, Int.add_comm]
          rfl
        rw [e] at z
        exact z
      · have ek : (1 + (k : Int)) = ((k + 1 : Nat) : Int) := by omega
        have dm : EvD ⟨K, none, B0, H0⟩ (tVar 2) [.da (cycD c), .da (.int (c.length : Int)), .da (.int (1 + (k : Int)))] (.int ((k + 1 : Nat) : Int)) := (d_var rfl).eq (by rw [ek])
        have dr : EvD ⟨K, none, B0, H0⟩ (tRep K) [.da (cycD c), .da (.int (c.length : Int)), .da (.int (1 + (k : Int)))] (cycD (List.replicate (c.length / (k + 1)) (c.take (k + 1))).flatten) := (d_repA (k := c.length / (k + 1)) (d_cutTo (k := k + 1) (ds := c.map .bl) (d_var rfl) dm) ((d_int2c (d_var rfl) dm ⟨by omega, by omega⟩).eq (by rw [Int.natCast_ediv])) (Nat.div_pos (by omega) (by omega)) (Nat.le_trans (Nat.div_le_self _ _) (by omega)) (fun z => by
          have := congrArg List.length z
          rw [List.length_take, List.length_map] at this
          have : min (k + 1) c.length = 0 := this
          omega) (by rw [List.length_take, List.length_map]; omega)).eq (by
          show Da.tup _ = Da.tup _
          rw [List.map_flatten, List.map_replicate, List.map_take])
        refine (t_test (d_eqD (d_var rfl) dr (cyc_py c) (cyc_py _) (shaped_cyc c) (shaped_cyc _))).eq ?_
        rw [cyc_eqv]
        rfl
    obtain ⟨_, _, _, _, r, er, hm⟩ := per_ok (c := c) (by omega)
    refine s_ret (d_minL (l := (reps c).map fun (k : Nat) => (k : Int)) (d_ofO lc) ?_ fun y hy => ?_) rfl
    · rw [er]
      exact List.mem_cons_self
    · obtain ⟨x, hx, ex⟩ := List.mem_map.mp hy
      rw [er] at hx
      rcases List.mem_cons.mp hx with e | e
      · omega
      · have := hm x e
        omega
theorem d_least {c : Ly.Ctx} {ρ : List Cell} {ta : TE} {cy : List Bool} (ha : EvD c ta ρ (cycD cy)) (h1 : 1 ≤ cy.length) (h2 : cy.length ≤ 14) : EvD c (tCall (spR c.K SLeast) [] E0 (tCons ta tNil)) ρ (.int (perd cy : Int)) := d_call (a_cons ha a_nil) ⟨cy, rfl, h1, h2, rfl⟩
end

end Ca


set_option Elab.async false
set_option autoImplicit false
set_option linter.all false
set_option maxRecDepth 100000
set_option maxHeartbeats 4000000
namespace Ca
open PySem PySem.Spec PyProof.Rows L2 Cmb Ly Cal
section
variable {P : Program} {w : World} {K : PySem.W.Frag} {mg : Str → Option Value} {base : Heap} {f : Addr} {fd : FuncData} {C : Addr}
/-! ### turn_of -/
def turnD (c : List Bool) (ch : Chs) : Da := .tup [.int (firstT c ch 0), .int (perd c : Int)]
def STurn (C : Addr) : List Da → Da → Prop := fun ds e => ∃ (c : List Bool) (ch : Chs), ds = [calD C c ch] ∧ CalOk c ch ∧ e = turnD c ch
abbrev NTO : List Str := ["calendar", "otherwise", "slot", "works"]
theorem sc_turn_of : FnScope NTO ["calendar"] (defScope (top 25)) := ⟨rfl, rfl, rfl, by decide +kernel, rfl, by decide +kernel, by decide +kernel⟩
abbrev tGain (K : PySem.W.Frag) : TT := tTest (tOp rNe (tCall (spR K SGain) [] E0 (tCons (tFld K (tVar 0) "cycle") (tCons (tVar 2) (tCons (tVar 3) tNil)))) (tC (.int 0)))
theorem first_max {c : List Bool} {ch : Chs} (A : Asc (-1) ch) : (((others c ch).map fun q => q.1 + 1) = [] → firstT c ch 0 = 0) ∧ (((others c ch).map fun q => q.1 + 1) ≠ [] → firstT c ch 0 ∈ ((others c ch).map fun q => q.1 + 1) ∧ ∀ y, y ∈ ((others c ch).map fun q => q.1 + 1) → y ≤ firstT c ch 0) := by
  have mem : ∀ q, q ∈ others c ch ↔ q ∈ ch ∧ q.2 ≠ byC c q.1 := fun q => by
    unfold others
    rw [List.mem_filter, decide_eq_true_eq, gain_ne]
  refine ⟨fun e => ?_, fun ne => ⟨?_, fun y hy => ?_⟩⟩
  · rw [firstT_others, e]
    rfl
  · rcases firstT_at c ch 0 with e | ⟨q, m, hq, e⟩
    · exfalso
      cases q : others c ch with
      | nil => exact ne (by rw [q]; rfl)
      | cons x r =>
        obtain ⟨m1, m2⟩ := (mem x).mp (by rw [q]; exact List.mem_cons_self)
        have := firstT_ge c A (x := 0) (by decide) x m1 m2
        have := Asc.lt A x m1
        omega
    · rw [e]
      exact List.mem_map.mpr ⟨q, (mem q).mpr ⟨m, hq⟩, rfl⟩
  · obtain ⟨q, m, e⟩ := List.mem_map.mp hy
    obtain ⟨m1, m2⟩ := (mem q).mp m
    have := firstT_ge c A (x := 0) (by decide) q m1 m2
    omega
theorem ok_turn_of (F : FnP K "turn_of" (top 25) f fd) (T : Txt K mg C) (D_need_calendar : Dn P w K mg base 1 "need_calendar" ["calendar", "part"] (spR K (SNeedC C))) (D_gain : Dn P w K mg base 2 "gain" ["cycle", "slot", "works"] (spR K SGain)) (D_least_period : Dn P w K mg base 1 "least_period" ["cycle"] (spR K SLeast)) (g_max : mg "max" = none) : FnOk P w K mg base CX0 3 f fd ["calendar"] (spR K (STurn C)) := by
  have nd := sc_turn_of.nd
  refine F.ok sc_turn_of (fun vs H Q E h => ?_) (fun cdv A outer s H vs Q E hr h => ?_)
  · obtain ⟨B, ds, e, _, rv, ⟨c, ch, rfl, _⟩, _⟩ := h
    exact rv.len
  · refine ⟨_, PSs.nox (pss_cons (ps_expr (pe_d D_need_calendar (hr.mono (by decide)) (pa_cons (pv 0) (pa_cons pe_str pa_nil))))
      (pss_cons (ps_setLc (i := 1) (own := [("slot", 2), ("works", 3)]) (wi := iSeq K (tFld K (tVar 0) "changes")) (g := gTup K 2 (gCons (gName 2) (gCons (gName 3) gNil))) (tt := tGain K) (te := tVar 2) rfl nd rfl ?hyl ?hsw ?hi (blkOk_by (own := [("slot", 2), ("works", 3)]) (N := NTO) (sc := defScope (top 25)) (by decide +kernel)) ?hg ?ht ?he)
      (pss_one (ps_ret (pe_tup (pa_cons (pe_callBK (cr_maxDf rfl hr.units) (by rfl) g_max (by decide +kernel) (pa_cons (pe_lc (own := [("slot", 2)]) (wi := iSeq K (tVar 1)) (g := gName 2) (tt := tYes) (te := tOp (rI0 fun i j => .int (i + j)) (tVar 2) (tC (.int 1))) rfl nd ?hi2 (blkOk_by (own := [("slot", 2)]) (N := NTO) (sc := defScope (top 25)) (by decide +kernel)) ?hg2 ?ht2 ?he2) pa_nil) (pk_cons pe_int pk_nil)) (pa_cons (pe_d D_least_period (hr.mono (by decide)) (pa_cons (pe_fld (pv 0) rfl) pa_nil)) pa_nil))))))), ?rd⟩
    case hyl => rfl
    case hsw => rfl
    case hi => exact pi_seq (pe_fld (pv 0) rfl)
    case hg => exact fun _ _ _ _ _ => pg_tup rfl (pgs_cons (pg_name (i := 2) nd rfl (Or.inl rfl)) (pgs_cons (pg_name (i := 3) nd rfl (Or.inl rfl)) pgs_nil))
    case ht => exact fun _ _ _ _ _ => pts_one (pt_cmpR op_ne (pe_d D_gain (hr.mono (by decide)) (pa_cons (pe_fld (pv 0) rfl) (pa_cons (pv 2) (pa_cons (pv 3) pa_nil)))) pe_int (nomark _))
    case he => exact fun _ _ _ _ _ => pv 2
    case hi2 => exact pi_seq (pv 1)
    case hg2 => exact fun _ _ _ _ _ => pg_name (i := 2) nd rfl (Or.inl rfl)
    case ht2 => exact fun _ _ _ _ _ => pts_nil
    case he2 => exact fun _ _ _ _ _ => pe_op op_add (pv 2) pe_int
    refine run_R h (fun ds e ⟨c, ch, e1, _⟩ => by rw [e1]; show 1 ≤ 4; decide) fun B0 H0 ds e ⟨c, ch, e1, O, e2⟩ => ?_
    subst e1
    subst e2
    have c1 := O.l1
    have c2 := O.l2
    have c3 := O.l3
    refine s_seq (s_drop (d_needC (d_var rfl)) ?_)
    have lc : ∀ n, EvO ⟨K, none, B0, H0⟩ (tLc (iSeq K (tFld K (tVar 0) "changes")) (gTup K 2 (gCons (gName 2) (gCons (gName 3) gNil))) (tGain K) (tVar 2) [2, 3]) [.da (calD C c ch), .no, .no, .no] n fun ds m => ds = (others c ch).map (fun q => Da.int q.1) ∧ m = n := fun n => by
      have hw := wk_seq (n := n) (c := ⟨K, none, B0, H0⟩) (ρ := [.da (calD C c ch), .no, .no, .no]) (te := tFld K (tVar 0) "changes") (d := chsD ch) (ds := ch.map chD) (d_chs (mg := mg) T (d_var rfl)) rfl
      rw [List.length_map] at hw
      have z := o_lcK (c := ⟨K, none, B0, H0⟩) (ρ := [.da (calD C c ch), .no, .no, .no]) (n := n) (wi := iSeq K (tFld K (tVar 0) "changes")) (g := gTup K 2 (gCons (gName 2) (gCons (gName 3) gNil))) (tt := tGain K) (te := tVar 2) (vs := [2, 3]) (N := ch.length) (dd := nth (ch.map chD)) (ρ2 := fun k => [.da (calD C c ch), .no, .da (.int (ch.getD k (0, false)).1), .da (.bl (ch.getD k (0, false)).2)]) (b := fun k => decide (gain c (ch.getD k (0, false)).1 (ch.getD k (0, false)).2 ≠ 0)) (el := fun k => .int (ch.getD k (0, false)).1) hw (by omega) (fun k hk => ?_) (fun k hk => (t_test (d_neI (d_gain (d_cyc (mg := mg) T (d_var rfl)) (d_var rfl) (d_var rfl) (by omega) (by omega)) d_int)).eq (by simp)) (fun k hk _ => d_var rfl)
      · rw [range_filter ch (0, false) (fun q => decide (gain c q.1 q.2 ≠ 0)) fun q => Da.int q.1] at z
        exact z
      · rw [nth_map (0, false) hk]
        exact tw_tup rfl (tws_cons (tw_name (by decide)) (tws_cons (tw_name (by decide)) tws_nil))
    refine s_seq (s_set (d_ofO lc) ?_)
    have ol : (others c ch).length ≤ 10 := Nat.le_trans (List.length_filter_le _ _) c3
    have lc2 : ∀ n, EvO ⟨K, none, B0, H0⟩ (tLc (iSeq K (tVar 1)) (gName 2) tYes (tOp (rI0 fun i j => .int (i + j)) (tVar 2) (tC (.int 1))) [2]) [.da (calD C c ch), .da (.lst ((others c ch).map fun q => Da.int q.1)), .no, .no] n fun ds m => ds = ((others c ch).map fun q => q.1 + 1).map Da.int ∧ m = n := fun n => by
      have hw := wk_seq (n := n) (c := ⟨K, none, B0, H0⟩) (ρ := [.da (calD C c ch), .da (.lst ((others c ch).map fun q => Da.int q.1)), .no, .no]) (te := tVar 1) (d := .lst ((others c ch).map fun q => Da.int q.1)) (ds := (others c ch).map fun q => Da.int q.1) (d_var rfl) rfl
      rw [List.length_map] at hw
      have z := o_lcK (c := ⟨K, none, B0, H0⟩) (ρ := [.da (calD C c ch), .da (.lst ((others c ch).map fun q => Da.int q.1)), .no, .no]) (n := n) (wi := iSeq K (tVar 1)) (g := gName 2) (tt := tYes) (te := tOp (rI0 fun i j => .int (i + j)) (tVar 2) (tC (.int 1))) (vs := [2]) (N := (others c ch).length) (dd := nth ((others c ch).map fun q => Da.int q.1)) (ρ2 := fun k => [.da (calD C c ch), .da (.lst ((others c ch).map fun q => Da.int q.1)), .da (.int ((others c ch).getD k (0, false)).1), .no]) (b := fun _ => true) (el := fun k => .int (((others c ch).getD k (0, false)).1 + 1)) hw (by omega) (fun k hk => ?_) (fun k hk => t_yes) (fun k hk _ => d_int2 (d_var rfl) d_int)
      · rw [range_filter (others c ch) (0, false) (fun _ => true) fun q => Da.int (q.1 + 1), List.filter_eq_self.mpr fun _ _ => rfl] at z
        rw [List.map_map]
        exact z
      · rw [nth_map (0, false) hk]
        exact tw_name (by decide)
    obtain ⟨m1, m2⟩ := first_max (c := c) O.asc
    exact s_ret (d_tup (a_cons (d_maxDf (d_ofO lc2) d_int m1 m2) (a_cons (d_least (d_cyc (mg := mg) T (d_var rfl)) c1 c2) a_nil)) (by show 2 ≤ 100000; decide)) rfl
/-! ### _law_turn, _law_turn_right -/
def SLTurn : List Da → Da → Prop := fun ds e => ∃ (c : List Bool) (ch : Chs), ds = [partsD c ch] ∧ CalOk c ch ∧ e = turnD c ch
abbrev NLT : List Str := ["_law_parts_here", "_law_whole_so", "_law_size", "_law_first", "_law_some", "_law_many", "_law_slot", "_law_is_on"]
theorem sc_lturn : FnScope NLT ["_law_parts_here"] (defScope (top 37)) := ⟨rfl, rfl, rfl, by decide +kernel, rfl, by decide +kernel, by decide +kernel⟩
abbrev tRot (K : PySem.W.Frag) : TE := tOp (rCatA K) (tSl (rSlA K) (tVar 1) (tPart (tVar 5)) tNoPart) (tSl (rSlA K) (tVar 1) tNoPart (tPart (tVar 5)))
abbrev iUp2 : TI := iRng2 (tCons (tC (.int 1)) (tCons (tOp (rI0 fun i j => .int (i + j)) (tVar 2) (tC (.int 1))) tNil))
theorem ok_lturn (F : FnP K "_law_turn" (top 37) f fd) (T : Txt K mg C) : FnOk P w K mg base CX0 1 f fd ["_law_parts_here"] (spR K SLTurn) := by
  have nd := sc_lturn.nd
  refine F.ok sc_lturn (fun vs H Q E h => ?_) (fun cdv A outer s H vs Q E hr h => ?_)
  · obtain ⟨B, ds, e, _, rv, ⟨c, ch, rfl, _⟩, _⟩ := h
    exact rv.len
  · refine ⟨_, PSs.nox (pss_cons (ps_asg (pe_tup (pa_cons (pe_ix ix_tup (pv 0) pe_int (fun _ _ => rfl)) (pa_cons (pe_callB call_len_seq (by rfl) T.len PySem.boot_len (pa_cons (pe_ix ix_tup (pv 0) pe_int (fun _ _ => rfl)) pa_nil)) (pa_cons pe_int pa_nil)))) (pg_tup rfl (pgs_cons (pg_name (i := 1) nd rfl (Or.inr rfl)) (pgs_cons (pg_name (i := 2) nd rfl (Or.inl rfl)) (pgs_cons (pg_name (i := 3) nd rfl (Or.inl rfl)) pgs_nil)))))
      (pss_cons (ps_setLc (i := 4) (own := [("_law_many", 5)]) (wi := iUp2) (g := gName 5) (tt := tTest (tOp (rEqD K) (tRot K) (tVar 1))) (te := tVar 5) rfl nd rfl ?hyl ?hsw ?hi (blkOk_by (own := [("_law_many", 5)]) (N := NLT) (sc := defScope (top 37)) (by decide +kernel)) ?hg ?ht ?he)
      (pss_cons (ps_for PassesOwn.never rfl (pi_seq (pe_ix ix_tup (pv 0) pe_int (fun _ _ => rfl))) (pg_tup rfl (pgs_cons (pg_name (i := 6) nd rfl (Or.inl rfl)) (pgs_cons (pg_name (i := 7) nd rfl (Or.inl rfl)) pgs_nil)))
        (pss_one (ps_if (pt_cmpR op_ne (pv 7) (pe_ix ix_tup (pv 1) (pe_op op_mod (pe_callTy call_int1 (by rfl) T.int (by decide +kernel) (pa_cons (pv 6) pa_nil)) (pv 2)) (fun _ _ => rfl)) (nomark _)) (pss_one (ps_set (i := 3) nd rfl (Or.inl rfl) (pe_op op_add (pv 6) pe_int))) pss_nil)))
      (pss_one (ps_ret (pe_tup (pa_cons (pv 3) (pa_cons (pe_ix ix_list (pv 4) pe_int (fun _ _ => rfl)) pa_nil)))))))), ?rd⟩
    case hyl => rfl
    case hsw => rfl
    case hi => exact pi_range2 (by rfl) T.range (pa_cons pe_int (pa_cons (pe_op op_add (pv 2) pe_int) pa_nil))
    case hg => exact fun _ _ _ _ _ => pg_name (i := 5) nd rfl (Or.inl rfl)
    case ht => exact fun _ _ _ _ _ => pts_one (pt_cmpR (op_eqD hr.units) (pe_op op_catA (pe_slice sl_tupA (pv 1) (po_some (pv 5)) po_none) (pe_slice sl_tupA (pv 1) po_none (po_some (pv 5)))) (pv 1) (nomark _))
    case he => exact fun _ _ _ _ _ => pv 5
    refine run_R h (fun ds e ⟨c, ch, e1, _⟩ => by rw [e1]; show 1 ≤ 8; decide) fun B0 H0 ds e ⟨c, ch, e1, O, e2⟩ => ?_
    subst e1
    subst e2
    have c1 := O.l1
    have c2 := O.l2
    have c3 := O.l3
    have at0 : ∀ {ρ : List Cell}, ρ[0]? = some (.da (partsD c ch)) → EvD ⟨K, none, B0, H0⟩ (tOp (rIxT K) (tVar 0) (tC (.int 0))) ρ (cycD c) := fun z => d_ixT (ds := [cycD c, chsD ch]) (d_var z) d_int rfl
    have at1 : ∀ {ρ : List Cell}, ρ[0]? = some (.da (partsD c ch)) → EvD ⟨K, none, B0, H0⟩ (tOp (rIxT K) (tVar 0) (tC (.int 1))) ρ (chsD ch) := fun z => d_ixT (ds := [cycD c, chsD ch]) (d_var z) d_int rfl
    refine s_seq (s_asg (d_tup (a_cons (at0 rfl) (a_cons (d_lenM (f := Da.bl) (l := c) (at0 rfl) rfl) (a_cons d_int a_nil))) (by show 3 ≤ 100000; decide)) (tg_tup rfl (tgs_cons tg_name (tgs_cons tg_name (tgs_cons tg_name tgs_nil)))) ?_)
    have lc : ∀ n, EvO ⟨K, none, B0, H0⟩ (tLc iUp2 (gName 5) (tTest (tOp (rEqD K) (tRot K) (tVar 1))) (tVar 5) [5]) [.da (partsD c ch), .da (cycD c), .da (.int (c.length : Int)), .da (.int 0), .no, .no, .no, .no] n fun ds m => ds = ((rots c).map fun (k : Nat) => (k : Int)).map Da.int ∧ m = n := fun n => by
      have hw := wk_range2 (n := n) (c := ⟨K, none, B0, H0⟩) (ρ := [.da (partsD c ch), .da (cycD c), .da (.int (c.length : Int)), .da (.int 0), .no, .no, .no, .no]) (tr := tCons (tC (.int 1)) (tCons (tOp (rI0 fun i j => .int (i + j)) (tVar 2) (tC (.int 1))) tNil)) (lo := 1) (k := c.length) (hi := (c.length : Int) + 1) (a_cons d_int (a_cons (d_int2 (d_var rfl) d_int) a_nil)) (.inl (by omega)) (by omega) ⟨by decide, by decide⟩ (by omega)
      have z := o_lcK (c := ⟨K, none, B0, H0⟩) (ρ := [.da (partsD c ch), .da (cycD c), .da (.int (c.length : Int)), .da (.int 0), .no, .no, .no, .no]) (n := n) (wi := iUp2) (g := gName 5) (tt := tTest (tOp (rEqD K) (tRot K) (tVar 1))) (te := tVar 5) (vs := [5]) (N := c.length) (dd := upTo 1) (ρ2 := fun k => [.da (partsD c ch), .da (cycD c), .da (.int (c.length : Int)), .da (.int 0), .no, .da (.int (1 + (k : Int))), .no, .no]) (b := fun k => isRot c (k + 1)) (el := fun k => .int (1 + (k : Int))) hw (by omega) (fun k hk => tw_name (by decide)) (fun k hk => ?_) (fun k hk _ => d_var rfl)
      · have e : ((List.range c.length).filter fun k => isRot c (k + 1)).map (fun k : Nat => Da.int (1 + (k : Int))) = ((rots c).map fun (k : Nat) => (k : Int)).map Da.int := by
          unfold rots
          rw [List.map_map, List.map_map]
          refine List.map_congr_left fun k _ => ?_
          show Da.int _ = Da.int ((k + 1 : Nat) : Int)
          rw [Int.natCast_add, Int.add_comm]
          rfl
        rw [e] at z
        exact z
      · have ek : (1 + (k : Int)) = ((k + 1 : Nat) : Int) := by omega
        have dm : EvD ⟨K, none, B0, H0⟩ (tVar 5) [.da (partsD c ch), .da (cycD c), .da (.int (c.length : Int)), .da (.int 0), .no, .da (.int (1 + (k : Int))), .no, .no] (.int ((k + 1 : Nat) : Int)) := (d_var rfl).eq (by rw [ek])
        have dr : EvD ⟨K, none, B0, H0⟩ (tRot K) [.da (partsD c ch), .da (cycD c), .da (.int (c.length : Int)), .da (.int 0), .no, .da (.int (1 + (k : Int))), .no, .no] (cycD (c.drop (k + 1) ++ c.take (k + 1))) := (d_catT (d_cutOff (k := k + 1) (ds := c.map .bl) (d_var rfl) dm) (d_cutTo (k := k + 1) (ds := c.map .bl) (d_var rfl) dm) (by rw [List.length_drop, List.length_take, List.length_map]; omega)).eq (by
          show Da.tup _ = Da.tup _
          rw [List.map_append, List.map_drop, List.map_take])
        refine (t_test (d_eqD dr (d_var rfl) (cyc_py _) (cyc_py c) (shaped_cyc _) (shaped_cyc c))).eq ?_
        rw [cyc_eqv]
        rfl
    refine s_seq (s_set (d_ofO lc) ?_)
    have hw := wk_seq (n := 0) (c := ⟨K, none, B0, H0⟩) (ρ := [.da (partsD c ch), .da (cycD c), .da (.int (c.length : Int)), .da (.int 0), .da (.lst (((rots c).map fun (k : Nat) => (k : Int)).map Da.int)), .no, .no, .no]) (te := tOp (rIxT K) (tVar 0) (tC (.int 1))) (d := chsD ch) (ds := ch.map chD) (at1 rfl) rfl
    rw [List.length_map] at hw
    refine s_seq (s_for (N := ch.length) (dd := nth (ch.map chD)) (fun k ρ' n' => n' = 0 ∧ ∃ x y z, firstT c ch 0 = firstT c (ch.drop k) x ∧ ρ' = [.da (partsD c ch), .da (cycD c), .da (.int (c.length : Int)), .da (.int x), .da (.lst (((rots c).map fun (k : Nat) => (k : Int)).map Da.int)), .no, y, z]) hw ⟨rfl, 0, .no, .no, rfl, rfl⟩ (fun k ρ' n' hk ⟨hn, x, y, z, hi, e⟩ => ?_) fun ρ' n' ⟨hn, x, y, z, hi, e⟩ => ?_)
    · subst e
      subst hn
      rw [drop_at (0, false) hk] at hi
      have ek := nth_map (f := chD) (l := ch) (0, false) hk
      generalize ch.getD k (0, false) = q at hi ek
      refine ⟨[.da (partsD c ch), .da (cycD c), .da (.int (c.length : Int)), .da (.int x), .da (.lst (((rots c).map fun (k : Nat) => (k : Int)).map Da.int)), .no, .da (.int q.1), .da (.bl q.2)], ?_, ?_⟩
      · rw [ek]
        exact tg_tup rfl (tgs_cons tg_name (tgs_cons tg_name tgs_nil))
      have dby : EvD ⟨K, none, B0, H0⟩ (tOp (rIxT K) (tVar 1) (tOp (rI (fun _ j => 0 < j) fun i j => .int (i % j)) (tCB (fun xs H Q => (∃ i, xs = [.int i] ∧ Q (.int i) H) ∨ ∃ k, xs = [.bl k] ∧ Q (.int (if k then 1 else 0)) H) (tCons (tVar 6) tNil)) (tVar 2))) [.da (partsD c ch), .da (cycD c), .da (.int (c.length : Int)), .da (.int x), .da (.lst (((rots c).map fun (k : Nat) => (k : Int)).map Da.int)), .no, .da (.int q.1), .da (.bl q.2)] (.bl (byC c q.1)) :=
        d_ixT (ds := c.map .bl) (d_var rfl) (d_int2c (d_int1 (d_var rfl)) (d_var rfl) (by show (0 : Int) < (c.length : Int); omega)) (atI_map (f := Da.bl) false (Int.emod_nonneg _ (by omega)) (Int.emod_lt_of_pos _ (by omega)))
      refine s_if (t_test (d_neS (x := .bl q.2) (y := .bl (byC c q.1)) (d_var rfl) dby rfl rfl rfl)) (fun z => s_set (d_int2 (d_var rfl) d_int) ⟨rfl, _, _, _, ?_, rfl⟩) fun z => s_next ⟨rfl, _, _, _, ?_, rfl⟩
      · have ne : q.2 ≠ byC c q.1 := fun e => by
          rw [e] at z
          simp at z
        rw [hi]
        show firstT c _ (if q.2 ≠ byC c q.1 then q.1 + 1 else x) = _
        rw [if_pos ne]
      · have eq : ¬ q.2 ≠ byC c q.1 := fun ne => by
          have : decide (V.bl q.2 = V.bl (byC c q.1)) = false := decide_eq_false fun e => ne (V.bl.inj e)
          rw [this] at z
          cases z
        rw [hi]
        show firstT c _ (if q.2 ≠ byC c q.1 then q.1 + 1 else x) = _
        rw [if_neg eq]
    · subst e
      subst hn
      rw [List.drop_length] at hi
      obtain ⟨_, _, _, ⟨r, er⟩, _⟩ := per_ok (c := c) (by omega)
      refine s_ret (d_tup (a_cons (d_var rfl) (a_cons (d_ixL (d := .int (perd c : Int)) (d_var rfl) d_int ?_) a_nil)) (by show 2 ≤ 100000; decide)) ?_
      · rw [er, List.map_cons, List.map_cons]
        exact atI_nat (j := 0) rfl
      · show Da.tup _ = Da.tup _
        rw [hi]
        rfl
end

end Ca


set_option Elab.async false
set_option autoImplicit false
set_option linter.all false
set_option maxRecDepth 100000
set_option maxHeartbeats 4000000
namespace Ca
open PySem PySem.Spec PyProof.Rows L2 Cmb Ly Cal
section
variable {c : Ly.Ctx} {ρ : List Cell} {ta tb : TE}
theorem d_lw {cy : List Bool} {ch : Chs} {s : Int} (ha : EvD c ta ρ (partsD cy ch)) (hb : EvD c tb ρ (.int s)) (O : CalOk cy ch) : EvD c (tCall (spR c.K SLWorks) [] E0 (tCons ta (tCons tb tNil))) ρ (.bl (works cy ch s)) := d_call (a_cons ha (a_cons hb a_nil)) ⟨cy, ch, s, rfl, by have := O.l1; omega, by have := O.l2; omega, rfl⟩
theorem d_wa {C : Addr} {cy : List Bool} {ch : Chs} {s : Int} (ha : EvD c ta ρ (calD C cy ch)) (hb : EvD c tb ρ (.int s)) (O : CalOk cy ch) : EvD c (tCall (spR c.K (SWorks C)) [] E0 (tCons ta (tCons tb tNil))) ρ (.bl (works cy ch s)) := d_worksAt ha hb (by have := O.l1; omega) (by have := O.l2; omega)
theorem d_neB {x y : Bool} (ha : EvD c ta ρ (.bl x)) (hb : EvD c tb ρ (.bl y)) : EvD c (tOp rNe ta tb) ρ (.bl (x != y)) := (d_neS (x := .bl x) (y := .bl y) ha hb rfl rfl rfl).eq (by cases x <;> cases y <;> rfl)
def optI : Option Int → Da
  | none => .non
  | some i => .int i
def told (h1 h2 : Chs) : List Int := srtI ((h1 ++ h2).map fun q => q.1)
end
section
variable {P : Program} {w : World} {K : PySem.W.Frag} {mg : Str → Option Value} {base : Heap} {f : Addr} {fd : FuncData} {C : Addr}
/-! ### _law_turn_right -/
def STRight : List Da → Da → Prop := fun ds e => ∃ (c : List Bool) (ch : Chs), ds = [partsD c ch, turnD c ch] ∧ CalOk c ch ∧ e = .bl true
abbrev NTR : List Str := ["_law_parts_here", "_law_told", "_law_first", "_law_period", "_law_slot"]
theorem sc_tright : FnScope NTR ["_law_parts_here", "_law_told"] (defScope (top 38)) := ⟨rfl, rfl, rfl, by decide +kernel, rfl, by decide +kernel, by decide +kernel⟩
theorem ok_tright (F : FnP K "_law_turn_right" (top 38) f fd) (T : Txt K mg C) (D_law_works : Dn P w K mg base 1 "_law_works" ["_law_parts_here", "_law_slot"] (spR K SLWorks)) : FnOk P w K mg base CX0 2 f fd ["_law_parts_here", "_law_told"] (spR K STRight) := by
  have nd := sc_tright.nd
  refine F.ok sc_tright (fun vs H Q E h => ?_) (fun cdv A outer s H vs Q E hr h => ?_)
  · obtain ⟨B, ds, e, _, rv, ⟨c, ch, rfl, _⟩, _⟩ := h
    exact rv.len
  · refine ⟨_, PSs.nox (pss_cons (ps_asg (pv 1) (pg_tup rfl (pgs_cons (pg_name (i := 2) nd rfl (Or.inl rfl)) (pgs_cons (pg_name (i := 3) nd rfl (Or.inl rfl)) pgs_nil))))
      (pss_cons (ps_for PassesOwn.never rfl (pi_rg (prg_2 (by rfl) T.range (pv 2) (pe_op op_add (pv 2) pe_int))) (pg_name (i := 4) nd rfl (Or.inl rfl))
        (pss_one (ps_if (pt_cmpR op_ne (pe_d D_law_works (hr.mono (by decide)) (pa_cons (pv 0) (pa_cons (pv 4) pa_nil))) (pe_d D_law_works (hr.mono (by decide)) (pa_cons (pv 0) (pa_cons (pe_op op_add (pv 4) (pv 3)) pa_nil))) (nomark _)) (pss_one (ps_ret pe_bl)) pss_nil)))
      (pss_one (ps_ret (pe_or (pe_cmpR op_eq (pv 2) pe_int (nomark _)) (pe_one (pe_cmpR op_ne (pe_d D_law_works (hr.mono (by decide)) (pa_cons (pv 0) (pa_cons (pe_op op_sub (pv 2) pe_int) pa_nil))) (pe_d D_law_works (hr.mono (by decide)) (pa_cons (pv 0) (pa_cons (pe_op op_add (pe_op op_sub (pv 2) pe_int) (pv 3)) pa_nil))) (nomark _)))))))), ?rd⟩
    refine run_R h (fun ds e ⟨c, ch, e1, _⟩ => by rw [e1]; show 2 ≤ 5; decide) fun B0 H0 ds e ⟨c, ch, e1, O, e2⟩ => ?_
    subst e1
    subst e2
    have c1 := O.l1
    obtain ⟨r1, r2⟩ := turn_right c O.asc (by omega)
    refine s_seq (s_asg (d_var rfl) (tg_tup rfl (tgs_cons tg_name (tgs_cons tg_name tgs_nil))) ?_)
    have hw := wk_rg (n := 0) (c := ⟨K, none, B0, H0⟩) (ρ := [.da (partsD c ch), .da (turnD c ch), .da (.int (firstT c ch 0)), .da (.int (perd c : Int)), .no]) (ta := tVar 2) (tb := tOp (rI0 fun i j => .int (i + j)) (tVar 2) (tC (.int 40))) (a := firstT c ch 0) (b := firstT c ch 0 + 40) (k := 40) (d_var rfl) (d_int2 (d_var rfl) d_int) (by omega)
    refine s_seq (s_for (N := 40) (dd := upTo (firstT c ch 0)) (fun k ρ' n' => n' = 0 ∧ ∃ x, ρ' = [.da (partsD c ch), .da (turnD c ch), .da (.int (firstT c ch 0)), .da (.int (perd c : Int)), x]) hw ⟨rfl, .no, rfl⟩ (fun k ρ' n' hk ⟨hn, x, e⟩ => ?_) fun ρ' n' ⟨hn, x, e⟩ => ?_)
    · subst e
      subst hn
      refine ⟨[.da (partsD c ch), .da (turnD c ch), .da (.int (firstT c ch 0)), .da (.int (perd c : Int)), .da (.int (firstT c ch 0 + (k : Int)))], tg_name, ?_⟩
      refine s_if (b := false) ((t_test (d_neB (d_lw (d_var rfl) (d_var rfl) O) (d_lw (d_var rfl) (d_int2 (d_var rfl) (d_var rfl)) O))).eq ?_) (fun z => by cases z) fun _ => s_next ⟨rfl, _, rfl⟩
      rw [r1 (firstT c ch 0 + (k : Int)) (by omega)]
      simp
    · subst e
      subst hn
      refine s_ret ((d_or (d_eqI (d_var rfl) d_int) fun _ => d_neB (d_lw (d_var rfl) (d_int2 (d_var rfl) d_int) O) (d_lw (d_var rfl) (d_int2 (d_int2 (d_var rfl) d_int) (d_var rfl)) O)).eq ?_) rfl
      rcases r2 with e | e
      · rw [decide_eq_true e]
        rfl
      · have : (works c ch (firstT c ch 0 - 1) != works c ch (firstT c ch 0 - 1 + (perd c : Int))) = true := by simpa using e
        rw [this, Bool.or_true]
/-! ### first_difference, _law_difference -/
def SFD (C : Addr) : List Da → Da → Prop := fun ds e => ∃ (c1 : List Bool) (h1 : Chs) (c2 : List Bool) (h2 : Chs), ds = [calD C c1 h1, calD C c2 h2] ∧ CalOk c1 h1 ∧ CalOk c2 h2 ∧ e = optI (progD (dif c1 h1 c2 h2) (Nat.lcm c1.length c2.length) (0 :: told h1 h2))
abbrev NFD : List Str := ["calendar", "other", "turn", "told", "slot", "_", "start"]
theorem sc_fdif : FnScope NFD ["calendar", "other"] (defScope (top 24)) := ⟨rfl, rfl, rfl, by decide +kernel, rfl, by decide +kernel, by decide +kernel⟩
abbrev tChs2 (K : PySem.W.Frag) : TE := tOp (rCatA K) (tFld K (tVar 0) "changes") (tFld K (tVar 1) "changes")
theorem rngI_drop {a : Int} {n j : Nat} (h : j < n) : (rngI a n).drop j = (a + (j : Int)) :: (rngI a n).drop (j + 1) := by
  have hl : j < (rngI a n).length := by
    unfold rngI
    rw [List.length_map, List.length_range]
    exact h
  have e : (rngI a n)[j] = a + (j : Int) := by simp [rngI]
  rw [List.drop_eq_getElem_cons hl, e]
theorem rngI_len (a : Int) (n : Nat) : (rngI a n).length = n := by
  unfold rngI
  rw [List.length_map, List.length_range]
theorem told_len (h1 h2 : Chs) : (told h1 h2).length = h1.length + h2.length := by
  unfold told
  rw [(srtI_perm _).length_eq, List.length_map, List.length_append]
theorem ok_fdif (F : FnP K "first_difference" (top 24) f fd) (T : Txt K mg C) (D_need_calendar : Dn P w K mg base 1 "need_calendar" ["calendar", "part"] (spR K (SNeedC C))) (D_works_at : Dn P w K mg base 2 "works_at" ["calendar", "slot"] (spR K (SWorks C))) (g_sorted : mg "sorted" = none) (g_lcm : mg "lcm" = some (.builtin "math.lcm")) : FnOk P w K mg base CX0 3 f fd ["calendar", "other"] (spR K (SFD C)) := by
  have nd := sc_fdif.nd
  refine F.ok sc_fdif (fun vs H Q E h => ?_) (fun cdv A outer s H vs Q E hr h => ?_)
  · obtain ⟨B, ds, e, _, rv, ⟨c1, h1, c2, h2, rfl, _⟩, _⟩ := h
    exact rv.len
  · refine ⟨_, PSs.nox (pss_cons (ps_expr (pe_d D_need_calendar (hr.mono (by decide)) (pa_cons (pv 0) (pa_cons pe_str pa_nil))))
      (pss_cons (ps_expr (pe_d D_need_calendar (hr.mono (by decide)) (pa_cons (pv 1) (pa_cons pe_str pa_nil))))
      (pss_cons (ps_set (i := 2) nd rfl (Or.inl rfl) (pe_callBfun cr_lcm (by rfl) g_lcm (pa_cons (pe_callB call_len_seq (by rfl) T.len PySem.boot_len (pa_cons (pe_fld (pv 0) rfl) pa_nil)) (pa_cons (pe_callB call_len_seq (by rfl) T.len PySem.boot_len (pa_cons (pe_fld (pv 1) rfl) pa_nil)) pa_nil))))
      (pss_cons (ps_set (i := 3) nd rfl (Or.inl rfl) (pe_callB cr_sortedI (by rfl) g_sorted (by decide +kernel) (pa_cons (pe_lc (own := [("slot", 4), ("_", 5)]) (wi := iSeq K (tChs2 K)) (g := gTup K 2 (gCons (gName 4) (gCons (gName 5) gNil))) (tt := tYes) (te := tVar 4) rfl nd ?hi (blkOk_by (own := [("slot", 4), ("_", 5)]) (N := NFD) (sc := defScope (top 24)) (by decide +kernel)) ?hg ?ht ?he) pa_nil)))
      (pss_cons (ps_for PassesOwn.never rfl (pi_list (pe_op op_cat (pe_lst (pa_cons pe_int pa_nil)) (pv 3))) (pg_name (i := 6) nd rfl (Or.inl rfl))
        (pss_one (ps_for PassesOwn.never rfl (pi_rg (prg_2 (by rfl) T.range (pv 6) (pe_op op_add (pe_op op_add (pv 6) (pv 2)) pe_int))) (pg_name (i := 4) nd rfl (Or.inl rfl))
          (pss_one (ps_if (pt_cmpR op_ne (pe_d D_works_at (hr.mono (by decide)) (pa_cons (pv 0) (pa_cons (pv 4) pa_nil))) (pe_d D_works_at (hr.mono (by decide)) (pa_cons (pv 1) (pa_cons (pv 4) pa_nil))) (nomark _)) (pss_one (ps_ret (pv 4))) pss_nil)))))
      (pss_one (ps_ret pe_non))))))), ?rd⟩
    case hi => exact pi_seq (pe_op op_catA (pe_fld (pv 0) rfl) (pe_fld (pv 1) rfl))
    case hg => exact fun _ _ _ _ _ => pg_tup rfl (pgs_cons (pg_name (i := 4) nd rfl (Or.inl rfl)) (pgs_cons (pg_name (i := 5) nd rfl (Or.inl rfl)) pgs_nil))
    case ht => exact fun _ _ _ _ _ => pts_nil
    case he => exact fun _ _ _ _ _ => pv 4
    refine run_R h (fun ds e ⟨c1, h1, c2, h2, e1, _⟩ => by rw [e1]; show 2 ≤ 7; decide) fun B0 H0 ds e ⟨c1, h1, c2, h2, e1, O1, O2, e2⟩ => ?_
    subst e1
    subst e2
    have a1 := O1.l1
    have a2 := O1.l2
    have a3 := O1.l3
    have b1 := O2.l1
    have b2 := O2.l2
    have b3 := O2.l3
    refine s_seq (s_drop (d_needC (d_var rfl)) (s_seq (s_drop (d_needC (d_var rfl)) ?_)))
    refine s_seq (s_set (d_lcm (d_lenM (f := Da.bl) (l := c1) (d_cyc (mg := mg) T (d_var rfl)) rfl) (d_lenM (f := Da.bl) (l := c2) (d_cyc (mg := mg) T (d_var rfl)) rfl) (by omega) (by omega) (by omega) (by omega)) ?_)
    rw [Int.toNat_natCast, Int.toNat_natCast]
    have lT : Nat.lcm c1.length c2.length ≤ 196 := Nat.le_trans (Nat.le_of_dvd (Nat.mul_pos (by omega) (by omega)) (Nat.lcm_dvd_mul _ _)) (Nat.le_trans (Nat.mul_le_mul a2 b2) (by decide))
    generalize hT : Nat.lcm c1.length c2.length = tn at lT
    have lc : ∀ n, EvO ⟨K, none, B0, H0⟩ (tLc (iSeq K (tChs2 K)) (gTup K 2 (gCons (gName 4) (gCons (gName 5) gNil))) tYes (tVar 4) [4, 5]) [.da (calD C c1 h1), .da (calD C c2 h2), .da (.int (tn : Int)), .no, .no, .no, .no] n fun ds m => ds = ((h1 ++ h2).map fun q => q.1).map Da.int ∧ m = n := fun n => by
      have dc : EvD ⟨K, none, B0, H0⟩ (tChs2 K) [.da (calD C c1 h1), .da (calD C c2 h2), .da (.int (tn : Int)), .no, .no, .no, .no] (chsD (h1 ++ h2)) := (d_catT (ds := h1.map chD) (es := h2.map chD) (d_chs (mg := mg) T (d_var rfl)) (d_chs (mg := mg) T (d_var rfl)) (by rw [List.length_map, List.length_map]; omega)).eq (by
        show Da.tup _ = Da.tup _
        rw [List.map_append])
      have hw := wk_seq (n := n) (ds := (h1 ++ h2).map chD) dc rfl
      rw [List.length_map] at hw
      have z := o_lcK (c := ⟨K, none, B0, H0⟩) (ρ := [.da (calD C c1 h1), .da (calD C c2 h2), .da (.int (tn : Int)), .no, .no, .no, .no]) (n := n) (wi := iSeq K (tChs2 K)) (g := gTup K 2 (gCons (gName 4) (gCons (gName 5) gNil))) (tt := tYes) (te := tVar 4) (vs := [4, 5]) (N := (h1 ++ h2).length) (dd := nth ((h1 ++ h2).map chD)) (ρ2 := fun k => [.da (calD C c1 h1), .da (calD C c2 h2), .da (.int (tn : Int)), .no, .da (.int ((h1 ++ h2).getD k (0, false)).1), .da (.bl ((h1 ++ h2).getD k (0, false)).2), .no]) (b := fun _ => true) (el := fun k => .int ((h1 ++ h2).getD k (0, false)).1) hw (by rw [List.length_append]; omega) (fun k hk => ?_) (fun k hk => t_yes) (fun k hk _ => d_var rfl)
      · rw [range_filter (h1 ++ h2) (0, false) (fun _ => true) fun q => Da.int q.1, List.filter_eq_self.mpr fun _ _ => rfl] at z
        rw [List.map_map]
        exact z
      · rw [nth_map (0, false) hk]
        exact tw_tup rfl (tws_cons (tw_name (by decide)) (tws_cons (tw_name (by decide)) tws_nil))
    refine s_seq (s_set (d_sortedI (d_ofO lc)) ?_)
    show SvG _ _ [.da (calD C c1 h1), .da (calD C c2 h2), .da (.int (tn : Int)), .da (.lst ((told h1 h2).map .int)), .no, .no, .no] _ _
    have tl := told_len h1 h2
    generalize told h1 h2 = L at tl
    have dL : EvD ⟨K, none, B0, H0⟩ (tOp rCat (tLst (tCons (tC (.int 0)) tNil)) (tVar 3)) [.da (calD C c1 h1), .da (calD C c2 h2), .da (.int (tn : Int)), .da (.lst (L.map .int)), .no, .no, .no] (.lst ((0 :: L).map .int)) := (nl_cat (ds := [.int 0]) (es := L.map .int) (d_lst (a_cons d_int a_nil) (by show 1 ≤ 100000; decide)) (d_var rfl) (by rw [List.length_map]; show 1 + _ ≤ _; omega)).da
    have hw := wk_list (n := 0) dL
    rw [List.length_map] at hw
    generalize hD : dif c1 h1 c2 h2 = D
    refine s_seq (s_for (N := (0 :: L).length) (dd := nth ((0 :: L).map .int)) (fun k ρ' n' => n' = 0 ∧ ∃ x y z, progD D tn (0 :: L) = progD D tn ((0 :: L).drop k) ∧ ρ' = [.da (calD C c1 h1), .da (calD C c2 h2), .da (.int (tn : Int)), .da (.lst (L.map .int)), x, y, z]) hw ⟨rfl, .no, .no, .no, rfl, rfl⟩ (fun k ρ' n' hk ⟨hn, x, y, z, hi, e⟩ => ?_) fun ρ' n' ⟨hn, x, y, z, hi, e⟩ => ?_)
    · subst e
      subst hn
      rw [drop_at 0 hk] at hi
      have ek := nth_map (f := Da.int) (l := 0 :: L) 0 hk
      generalize ((0 : Int) :: L).getD k 0 = a at hi ek
      refine ⟨[.da (calD C c1 h1), .da (calD C c2 h2), .da (.int (tn : Int)), .da (.lst (L.map .int)), x, y, .da (.int a)], by rw [ek]; exact tg_name, ?_⟩
      have hw2 := wk_rg (n := 0) (c := ⟨K, none, B0, H0⟩) (ρ := [.da (calD C c1 h1), .da (calD C c2 h2), .da (.int (tn : Int)), .da (.lst (L.map .int)), x, y, .da (.int a)]) (ta := tVar 6) (tb := tOp (rI0 fun i j => .int (i + j)) (tOp (rI0 fun i j => .int (i + j)) (tVar 6) (tVar 2)) (tC (.int 1))) (a := a) (b := a + (tn : Int) + 1) (k := tn + 1) (d_var rfl) (d_int2 (d_int2 (d_var rfl) (d_var rfl)) d_int) (by omega)
      refine s_for (N := tn + 1) (dd := upTo a) (fun j ρ' n' => n' = 0 ∧ ∃ x, fstIn D (rngI a (tn + 1)) = fstIn D ((rngI a (tn + 1)).drop j) ∧ ρ' = [.da (calD C c1 h1), .da (calD C c2 h2), .da (.int (tn : Int)), .da (.lst (L.map .int)), x, y, .da (.int a)]) hw2 ⟨rfl, x, rfl, rfl⟩ (fun j ρ' n' hj ⟨hn, x, hi2, e⟩ => ?_) fun ρ' n' ⟨hn, x, hi2, e⟩ => ?_
      · subst e
        subst hn
        rw [rngI_drop hj] at hi2
        refine ⟨[.da (calD C c1 h1), .da (calD C c2 h2), .da (.int (tn : Int)), .da (.lst (L.map .int)), .da (.int (a + (j : Int))), y, .da (.int a)], tg_name, ?_⟩
        have eD : (works c1 h1 (a + (j : Int)) != works c2 h2 (a + (j : Int))) = D (a + (j : Int)) := by rw [← hD]; rfl
        refine s_if ((t_test (d_neB (d_wa (d_var rfl) (d_var rfl) O1) (d_wa (d_var rfl) (d_var rfl) O2))).eq eD) (fun zz => s_ret (d_var rfl) ?_) fun zz => s_next ⟨rfl, _, ?_, rfl⟩
        · have q : fstIn D (rngI a (tn + 1)) = some (a + (j : Int)) := by
            rw [hi2]
            exact if_pos zz
          show Da.int _ = optI _
          rw [hi]
          unfold progD
          rw [q]
          rfl
        · rw [hi2]
          exact if_neg (by rw [zz]; decide)
      · subst e
        subst hn
        refine ⟨rfl, x, y, _, ?_, rfl⟩
        have q : fstIn D (rngI a (tn + 1)) = none := by
          rw [hi2, List.drop_of_length_le (by rw [rngI_len]; exact Nat.le_refl _)]
          rfl
        rw [hi]
        conv => lhs; unfold progD
        rw [q]
    · subst e
      subst hn
      rw [List.drop_length] at hi
      refine s_ret d_non ?_
      show Da.non = optI _
      rw [hi]
      rfl
def SLDif : List Da → Da → Prop := fun ds e => ∃ (c1 : List Bool) (h1 : Chs) (c2 : List Bool) (h2 : Chs), ds = [partsD c1 h1, partsD c2 h2] ∧ CalOk c1 h1 ∧ CalOk c2 h2 ∧ e = optI (fstIn (dif c1 h1 c2 h2) (rngI 0 420 ++ told h1 h2))
abbrev NLD : List Str := ["_law_one_here", "_law_other", "_law_some", "_law_row", "_law_slot"]
theorem sc_ldif : FnScope NLD ["_law_one_here", "_law_other"] (defScope (top 36)) := ⟨rfl, rfl, rfl, by decide +kernel, rfl, by decide +kernel, by decide +kernel⟩
abbrev tChs3 (K : PySem.W.Frag) : TE := tOp (rCatA K) (tOp (rIxT K) (tVar 0) (tC (.int 1))) (tOp (rIxT K) (tVar 1) (tC (.int 1)))
theorem up_rng (n : Nat) : upN n = (rngI 0 n).map Da.int := by
  unfold upN rngI
  rw [List.map_map]
  refine List.map_congr_left fun k _ => ?_
  show Da.int _ = Da.int (0 + (k : Int))
  rw [Int.zero_add]
theorem ok_ldif (F : FnP K "_law_difference" (top 36) f fd) (T : Txt K mg C) (D_law_works : Dn P w K mg base 1 "_law_works" ["_law_parts_here", "_law_slot"] (spR K SLWorks)) (g_sorted : mg "sorted" = none) : FnOk P w K mg base CX0 2 f fd ["_law_one_here", "_law_other"] (spR K SLDif) := by
  have nd := sc_ldif.nd
  refine F.ok sc_ldif (fun vs H Q E h => ?_) (fun cdv A outer s H vs Q E hr h => ?_)
  · obtain ⟨B, ds, e, _, rv, ⟨c1, h1, c2, h2, rfl, _⟩, _⟩ := h
    exact rv.len
  · refine ⟨_, PSs.nox (pss_cons (ps_set (i := 2) nd rfl (Or.inl rfl) (pe_op op_cat (pe_listRg rfl (by rfl) T.list (prg_1 (by rfl) T.range pe_int)) (pe_callB cr_sortedI (by rfl) g_sorted (by decide +kernel) (pa_cons (pe_lc (own := [("_law_row", 3)]) (wi := iSeq K (tChs3 K)) (g := gName 3) (tt := tYes) (te := tOp (rIxT K) (tVar 3) (tC (.int 0))) rfl nd ?hi (blkOk_by (own := [("_law_row", 3)]) (N := NLD) (sc := defScope (top 36)) (by decide +kernel)) ?hg ?ht ?he) pa_nil))))
      (pss_cons (ps_for PassesOwn.never rfl (pi_list (pv 2)) (pg_name (i := 4) nd rfl (Or.inl rfl))
        (pss_one (ps_if (pt_cmpR op_ne (pe_d D_law_works (hr.mono (by decide)) (pa_cons (pv 0) (pa_cons (pv 4) pa_nil))) (pe_d D_law_works (hr.mono (by decide)) (pa_cons (pv 1) (pa_cons (pv 4) pa_nil))) (nomark _)) (pss_one (ps_ret (pv 4))) pss_nil)))
      (pss_one (ps_ret pe_non)))), ?rd⟩
    case hi => exact pi_seq (pe_op op_catA (pe_ix ix_tup (pv 0) pe_int (fun _ _ => rfl)) (pe_ix ix_tup (pv 1) pe_int (fun _ _ => rfl)))
    case hg => exact fun _ _ _ _ _ => pg_name (i := 3) nd rfl (Or.inl rfl)
    case ht => exact fun _ _ _ _ _ => pts_nil
    case he => exact fun _ _ _ _ _ => pe_ix ix_tup (pv 3) pe_int (fun _ _ => rfl)
    refine run_R h (fun ds e ⟨c1, h1, c2, h2, e1, _⟩ => by rw [e1]; show 2 ≤ 5; decide) fun B0 H0 ds e ⟨c1, h1, c2, h2, e1, O1, O2, e2⟩ => ?_
    subst e1
    subst e2
    have a3 := O1.l3
    have b3 := O2.l3
    have lc : ∀ n, EvO ⟨K, none, B0, H0⟩ (tLc (iSeq K (tChs3 K)) (gName 3) tYes (tOp (rIxT K) (tVar 3) (tC (.int 0))) [3]) [.da (partsD c1 h1), .da (partsD c2 h2), .no, .no, .no] n fun ds m => ds = ((h1 ++ h2).map fun q => q.1).map Da.int ∧ m = n := fun n => by
      have dc : EvD ⟨K, none, B0, H0⟩ (tChs3 K) [.da (partsD c1 h1), .da (partsD c2 h2), .no, .no, .no] (chsD (h1 ++ h2)) := (d_catT (ds := h1.map chD) (es := h2.map chD) (d_ixT (ds := [cycD c1, chsD h1]) (d_var rfl) d_int rfl) (d_ixT (ds := [cycD c2, chsD h2]) (d_var rfl) d_int rfl) (by rw [List.length_map, List.length_map]; omega)).eq (by
        show Da.tup _ = Da.tup _
        rw [List.map_append])
      have hw := wk_seq (n := n) (ds := (h1 ++ h2).map chD) dc rfl
      rw [List.length_map] at hw
      have z := o_lcK (c := ⟨K, none, B0, H0⟩) (ρ := [.da (partsD c1 h1), .da (partsD c2 h2), .no, .no, .no]) (n := n) (wi := iSeq K (tChs3 K)) (g := gName 3) (tt := tYes) (te := tOp (rIxT K) (tVar 3) (tC (.int 0))) (vs := [3]) (N := (h1 ++ h2).length) (dd := nth ((h1 ++ h2).map chD)) (ρ2 := fun k => [.da (partsD c1 h1), .da (partsD c2 h2), .no, .da (chD ((h1 ++ h2).getD k (0, false))), .no]) (b := fun _ => true) (el := fun k => .int ((h1 ++ h2).getD k (0, false)).1) hw (by rw [List.length_append]; omega) (fun k hk => ?_) (fun k hk => t_yes) (fun k hk _ => d_ixT (ds := [.int ((h1 ++ h2).getD k (0, false)).1, .bl ((h1 ++ h2).getD k (0, false)).2]) (d_var rfl) d_int rfl)
      · rw [range_filter (h1 ++ h2) (0, false) (fun _ => true) fun q => Da.int q.1, List.filter_eq_self.mpr fun _ _ => rfl] at z
        rw [List.map_map]
        exact z
      · rw [nth_map (0, false) hk]
        exact tw_name (by decide)
    have tl := told_len h1 h2
    refine s_seq (s_set (d := .lst ((rngI 0 420 ++ told h1 h2).map .int)) ((nl_cat (ds := upN 420) (es := (told h1 h2).map .int) (nl_listRg (k := 420) d_int (by decide)).da (d_sortedI (d_ofO lc)) (by rw [up_rng, List.length_map, List.length_map, rngI_len]; omega)).da.eq (by rw [up_rng, List.map_append])) ?_)
    have ll : (rngI 0 420 ++ told h1 h2).length = 420 + (h1.length + h2.length) := by rw [List.length_append, rngI_len, tl]
    generalize rngI 0 420 ++ told h1 h2 = L at ll
    have hw := wk_list (n := 0) (c := ⟨K, none, B0, H0⟩) (ρ := [.da (partsD c1 h1), .da (partsD c2 h2), .da (.lst (L.map .int)), .no, .no]) (te := tVar 2) (ds := L.map .int) (d_var rfl)
    rw [List.length_map] at hw
    generalize hD : dif c1 h1 c2 h2 = D
    refine s_seq (s_for (N := L.length) (dd := nth (L.map .int)) (fun k ρ' n' => n' = 0 ∧ ∃ x, fstIn D L = fstIn D (L.drop k) ∧ ρ' = [.da (partsD c1 h1), .da (partsD c2 h2), .da (.lst (L.map .int)), .no, x]) hw ⟨rfl, .no, rfl, rfl⟩ (fun k ρ' n' hk ⟨hn, x, hi, e⟩ => ?_) fun ρ' n' ⟨hn, x, hi, e⟩ => ?_)
    · subst e
      subst hn
      rw [drop_at 0 hk] at hi
      have ek := nth_map (f := Da.int) (l := L) 0 hk
      generalize L.getD k 0 = a at hi ek
      refine ⟨[.da (partsD c1 h1), .da (partsD c2 h2), .da (.lst (L.map .int)), .no, .da (.int a)], by rw [ek]; exact tg_name, ?_⟩
      have eD : (works c1 h1 a != works c2 h2 a) = D a := by rw [← hD]; rfl
      refine s_if ((t_test (d_neB (d_lw (d_var rfl) (d_var rfl) O1) (d_lw (d_var rfl) (d_var rfl) O2))).eq eD) (fun zz => s_ret (d_var rfl) ?_) fun zz => s_next ⟨rfl, _, ?_, rfl⟩
      · show Da.int _ = optI _
        rw [hi]
        have q : fstIn D (a :: L.drop (k + 1)) = some a := if_pos zz
        rw [q]
        rfl
      · rw [hi]
        exact if_neg (by rw [zz]; decide)
    · subst e
      subst hn
      rw [List.drop_length] at hi
      refine s_ret d_non ?_
      show Da.non = optI _
      rw [hi]
      rfl
end

end Ca


set_option Elab.async false
set_option autoImplicit false
set_option linter.all false
set_option maxRecDepth 100000
set_option maxHeartbeats 4000000
/-! Calendars: the first slots, and calendars that are written otherwise. -/
namespace Cal
theorem mem_wkd (c : List Bool) (ch : Chs) (N : Nat) (s : Nat) (h : s < N) : decide ((s : Int) ∈ wkd c ch N) = works c ch (s : Int) := by
  have e : (s : Int) ∈ wkd c ch N ↔ works c ch (s : Int) = true := by
    unfold wkd
    rw [List.mem_map]
    constructor
    · rintro ⟨k, hk, e⟩
      have := (List.mem_filter.mp hk).2
      have ek : k = s := by omega
      rw [← ek]
      exact this
    · intro w
      exact ⟨s, List.mem_filter.mpr ⟨List.mem_range.mpr h, w⟩, rfl⟩
  cases q : works c ch (s : Int) with
  | true => exact decide_eq_true (e.mpr q)
  | false => exact decide_eq_false fun z => by rw [e.mp z] at q; cases q
theorem later_some (c : List Bool) (ch : Chs) (hc : true ∈ c) (hl : c.length ≤ 14) (hb : ∀ q ∈ ch, q.1 ≤ 48) {s : Nat} (hs : s ≤ 70) : 1 ≤ (laterL (wkd c ch 160) (s : Int)).length := by
  have h1 := later_len c ch 160 s (by omega)
  have h2 := cnt_same (f := works c ch) (g := byC c) 70 (fun k hk => works_not c fun q hq z => by
    have := hb q hq
    omega) 90
  have hL : 0 < c.length := List.length_pos_of_mem hc
  have hP := places_pos hc
  have a1 := ahead_cnt c hL 160
  have a2 := ahead_cnt c hL 70
  have r1 := rank_le c ((160 : Nat) % (c.length : Int))
  have r2 := rank_le c ((70 : Nat) % (c.length : Int))
  have h3 : cnt (byC c) 160 - cnt (byC c) 70 ≥ 1 := by
    rw [← a1, ← a2]
    unfold ahead
    generalize hP' : ((places c).length : Int) = P at *
    have hP1 : 1 ≤ P := by omega
    have key : ∀ L : Nat, 0 < L → L ≤ 14 → ((160 : Nat) : Int) / (L : Int) - ((70 : Nat) : Int) / (L : Int) - 1 ≥ 1 := by
      intro L h1 h2
      have : L = 1 ∨ L = 2 ∨ L = 3 ∨ L = 4 ∨ L = 5 ∨ L = 6 ∨ L = 7 ∨ L = 8 ∨ L = 9 ∨ L = 10 ∨ L = 11 ∨ L = 12 ∨ L = 13 ∨ L = 14 := by omega
      rcases this with e | e | e | e | e | e | e | e | e | e | e | e | e | e <;> subst e <;> decide
    have k := key c.length hL hl
    generalize ((160 : Nat) : Int) / (c.length : Int) = x at k ⊢
    generalize ((70 : Nat) : Int) / (c.length : Int) = y at k ⊢
    generalize rank c ((160 : Nat) % (c.length : Int)) = u at r1 ⊢
    generalize rank c ((70 : Nat) % (c.length : Int)) = v at r2 ⊢
    have m1 : x * P - y * P - P = (x - y - 1) * P := by
      rw [Int.sub_mul, Int.sub_mul, Int.one_mul]
    have m2 : (x - y - 1) * 1 ≤ (x - y - 1) * P := Int.mul_le_mul_of_nonneg_left hP1 (by omega)
    omega
  have h4 := cnt_le (works c ch) hs
  have e : 70 + 90 = 160 := rfl
  rw [e] at h2
  omega
theorem later_head (c : List Bool) (ch : Chs) (hc : true ∈ c) (hl : c.length ≤ 14) (h : Asc (-1) ch) (hb : ∀ q ∈ ch, q.1 ≤ 48) {s : Nat} (hs : s ≤ 70) : slotB c ch 0 (wAhead c ch (s : Int)) = (laterL (wkd c ch 160) (s : Int)).getD 0 0 := by
  obtain ⟨m, e, _, f, k⟩ := later_at c ch 160 s 0 (by have := later_some c ch hc hl hb hs; omega)
  rw [e]
  refine slotB_is c hc h f ?_
  rw [k, wAhead_cnt c (List.length_pos_of_mem hc) s (by decide) h]
  exact Int.add_zero _
def inG (c : List Bool) (ch : Chs) (g : Nat) : Nat → Bool := fun k => works c ch (k : Int) && decide (k < g)
theorem inG_cnt (c : List Bool) (ch : Chs) (g m : Nat) : (cntN (inG c ch g) m : Int) = cnt (works c ch) (if m ≤ g then m else g) := by
  rw [cnt_cntN]
  exact congrArg (fun (x : Nat) => (x : Int)) (cntN_to (fun (k : Nat) => works c ch (k : Int)) g m)
theorem due_is (c : List Bool) (ch : Chs) (hc : true ∈ c) (h : Asc (-1) ch) {s g : Nat} (hs : s ≤ 160) (hg : g ≤ 160) : (((laterL (wkd c ch 160) (s : Int)).filter fun x => decide (x < (g : Int))).length : Int) = if (s : Int) < (g : Int) then wAhead c ch (g : Int) - wAhead c ch (s : Int) else 0 := by
  have hL := List.length_pos_of_mem hc
  rw [wAhead_cnt c hL g (by decide) h, wAhead_cnt c hL s (by decide) h, later_wkd, List.filter_map, List.length_map, List.filter_filter]
  have e : ((List.range 160).filter fun (k : Nat) => ((fun x : Int => decide (x < (g : Int))) ∘ fun (k : Nat) => (k : Int)) k && (works c ch (k : Int) && decide (s ≤ k))) = (List.range 160).filter fun (k : Nat) => inG c ch g k && decide (s ≤ k) := by
    refine List.filter_congr fun k _ => ?_
    show (decide ((k : Int) < (g : Int)) && (works c ch (k : Int) && decide (s ≤ k))) = ((works c ch (k : Int) && decide (k < g)) && decide (s ≤ k))
    have z : decide ((k : Int) < (g : Int)) = decide (k < g) := decide_eq_decide.mpr (by omega)
    rw [z]
    cases works c ch (k : Int) <;> cases decide (k < g) <;> rfl
  rw [e]
  have z := cntN_from (inG c ch g) s (160 - s)
  rw [Nat.add_sub_cancel' hs] at z
  show (cntN (fun k => inG c ch g k && decide (s ≤ k)) 160 : Int) = _
  have a := inG_cnt c ch g 160
  have b := inG_cnt c ch g s
  have eg : (if 160 ≤ g then 160 else g) = g := by
    by_cases q : 160 ≤ g
    · rw [if_pos q]
      omega
    · rw [if_neg q]
  rw [eg] at a
  by_cases q : s < g
  · rw [if_pos (Nat.le_of_lt q)] at b
    rw [if_pos (by omega)]
    omega
  · rw [if_neg (by omega)]
    by_cases y : s ≤ g
    · rw [if_pos y] at b
      have : s = g := by omega
      subst this
      omega
    · rw [if_neg y] at b
      omega
/-! ### written otherwise -/
def lastS (ch : Chs) : Int := (ch.getD (ch.length - 1) (0, false)).1
def nextS (ch : Chs) : Int := if ch.isEmpty then 3 else lastS ch + 1
def moreC (c : List Bool) (ch : Chs) : Chs := ch ++ [(nextS ch, byC c (nextS ch))]
def unl (c : List Bool) (ch : Chs) : List (List Bool × Chs) :=
  (if c.length < 14 then [(c ++ [true], ch)] else []) ++ (if c.length < 8 then [(c ++ c, ch)] else []) ++ (if ch.isEmpty then [] else [(c, ch.drop 1)]) ++ (if ch.length + 1 < 11 then [(c, moreC c ch)] else [])
theorem asc_lastS : ∀ {ch : Chs} {lo : Int}, Asc lo ch → ∀ q ∈ ch, q.1 ≤ lastS ch
  | [], _, _, q, h => by cases h
  | [a], _, _, q, h => by
    rw [List.mem_singleton.mp h]
    exact Int.le_refl _
  | a :: b :: r, lo, h, q, hq => by
    have ih := asc_lastS h.2
    have e : lastS (a :: b :: r) = lastS (b :: r) := rfl
    rw [e]
    rcases List.mem_cons.mp hq with z | z
    · have h1 := ih b List.mem_cons_self
      have h2 : a.1 < b.1 := h.2.1
      rw [z]
      omega
    · exact ih q z
theorem nextS_ok {ch : Chs} (h : Asc (-1) ch) : -1 < nextS ch ∧ ∀ q ∈ ch, q.1 < nextS ch := by
  cases ch with
  | nil => exact ⟨by decide, fun q hq => by cases hq⟩
  | cons a r =>
    have e : nextS (a :: r) = lastS (a :: r) + 1 := rfl
    have h1 := asc_lastS h a List.mem_cons_self
    have h2 := h.1
    rw [e]
    exact ⟨by omega, fun q hq => by have := asc_lastS h q hq; omega⟩
theorem asc_put2 : ∀ {ch : Chs} {lo s : Int} {b : Bool}, Asc lo ch → (∀ q ∈ ch, q.1 < s) → lo < s → Asc lo (ch ++ [(s, b)])
  | [], _, _, _, _, _, h => ⟨h, True.intro⟩
  | q :: r, _, _, _, h, hb, _ => ⟨h.1, asc_put2 h.2 (fun p hp => hb p (List.mem_cons_of_mem _ hp)) (hb q List.mem_cons_self)⟩
theorem unl_ok {c : List Bool} {ch : Chs} (l1 : 1 ≤ c.length) (l2 : c.length ≤ 14) (tr : true ∈ c) (l3 : ch.length ≤ 10) (asc : Asc (-1) ch) : ∀ p ∈ unl c ch, 1 ≤ p.1.length ∧ p.1.length ≤ 14 ∧ true ∈ p.1 ∧ p.2.length ≤ 10 ∧ Asc (-1) p.2 ∧ (p.1.length ≠ c.length ∨ p.2.length ≠ ch.length) := by
  intro p hp
  unfold unl at hp
  rcases List.mem_append.mp hp with hp | hp
  · rcases List.mem_append.mp hp with hp | hp
    · rcases List.mem_append.mp hp with hp | hp
      · by_cases q : c.length < 14
        · rw [if_pos q] at hp
          rw [List.mem_singleton.mp hp]
          have e : (c ++ [true]).length = c.length + 1 := by rw [List.length_append]; rfl
          refine ⟨?_, ?_, List.mem_append_left _ tr, l3, asc, .inl ?_⟩
          · show 1 ≤ (c ++ [true]).length
            omega
          · show (c ++ [true]).length ≤ 14
            omega
          · show (c ++ [true]).length ≠ c.length
            omega
        · rw [if_neg q] at hp
          cases hp
      · by_cases q : c.length < 8
        · rw [if_pos q] at hp
          rw [List.mem_singleton.mp hp]
          have e : (c ++ c).length = c.length + c.length := List.length_append
          refine ⟨?_, ?_, List.mem_append_left _ tr, l3, asc, .inl ?_⟩
          · show 1 ≤ (c ++ c).length
            omega
          · show (c ++ c).length ≤ 14
            omega
          · show (c ++ c).length ≠ c.length
            omega
        · rw [if_neg q] at hp
          cases hp
    · cases ch with
      | nil => cases hp
      | cons a r =>
        have hp : p ∈ [(c, r)] := hp
        rw [List.mem_singleton.mp hp]
        refine ⟨l1, l2, tr, ?_, asc.2.low (by have := asc.1; omega), .inr ?_⟩
        · show r.length ≤ 10
          have e : (a :: r).length = r.length + 1 := rfl
          omega
        · show r.length ≠ (a :: r).length
          have e : (a :: r).length = r.length + 1 := rfl
          omega
  · by_cases q : ch.length + 1 < 11
    · rw [if_pos q] at hp
      rw [List.mem_singleton.mp hp]
      obtain ⟨n1, n2⟩ := nextS_ok asc
      have e : (moreC c ch).length = ch.length + 1 := by unfold moreC; rw [List.length_append]; rfl
      refine ⟨l1, l2, tr, ?_, asc_put2 asc n2 n1, .inr ?_⟩
      · show (moreC c ch).length ≤ 10
        omega
      · show (moreC c ch).length ≠ ch.length
        omega
    · rw [if_neg q] at hp
      cases hp
end Cal


set_option Elab.async false
set_option autoImplicit false
set_option linter.all false
set_option maxRecDepth 100000
set_option maxHeartbeats 4000000
namespace Ca
open PySem PySem.Spec PyProof.Rows L2 Cmb Ly Cal
section
variable {P : Program} {w : World} {K : PySem.W.Frag} {mg : Str → Option Value} {base : Heap} {f f2 : Addr} {fd fd2 : FuncData} {C : Addr}
/-! ### moved -/
def SMoved (C : Addr) : List Da → Da → Prop := fun ds e => ∃ (c : List Bool) (ch : Chs) (m : Int), ds = [calD C c ch, .int m] ∧ CalOk c ch ∧ 0 ≤ m ∧ e = calD C (mvC c m) (mvCh ch m)
theorem mv_ok {c : List Bool} {ch : Chs} (O : CalOk c ch) (m : Int) : CalOk (mvC c m) (mvCh ch m) := ⟨by rw [mvC_len]; exact O.l1, by rw [mvC_len]; exact O.l2, mvC_true O.tr m, Nat.le_trans (mvCh_len ch m) O.l3, mvCh_asc O.asc (by decide)⟩
abbrev NM : List Str := ["calendar", "many", "cycle", "place", "slot", "works"]
theorem sc_moved : FnScope NM ["calendar", "many"] (defScope (top 26)) := ⟨rfl, rfl, rfl, by decide +kernel, rfl, by decide +kernel, by decide +kernel⟩
abbrev tLenC (K : PySem.W.Frag) : TE := tCB (fun xs H Q => ∃ p ys, xs = [.ref p] ∧ (SqL K H p ys ∨ SqT K H p ys) ∧ Q (.int ys.length) H) (tCons (tFld K (tVar 0) "cycle") tNil)
abbrev tByM (K : PySem.W.Frag) : TE := tCall (spR K SByC) [] E0 (tCons (tFld K (tVar 0) "cycle") (tCons (tOp (rI0 fun i j => .int (i + j)) (tVar 3) (tVar 1)) tNil))
abbrev tMvE : TE := tTup (tCons (tOp (rI0 fun i j => .int (i - j)) (tVar 4) (tVar 1)) (tCons (tVar 5) tNil))
abbrev tMvT : TT := tTest (tOp (rI0 fun i j => .bl (decide (j ≤ i))) (tVar 4) (tVar 1))
theorem ok_moved (F : FnP K "moved" (top 26) f fd) (T : Txt K mg C) (M : Mk K C f2) (Fi : FnI K f2 fd2) (Oi : FnOk P w K mg base CX0 4 f2 fd2 ["self", "cycle", "changes"] (spInit K C)) (D_need_calendar : Dn P w K mg base 1 "need_calendar" ["calendar", "part"] (spR K (SNeedC C))) (D_need_number : Dn P w K mg base 3 "need_number" ["value", "part"] (spR K SNeedN)) (D_by_cycle : Dn P w K mg base 1 "by_cycle" ["cycle", "slot"] (spR K SByC)) : FnOk P w K mg base CX0 6 f fd ["calendar", "many"] (spR K (SMoved C)) := by
  have nd := sc_moved.nd
  refine F.ok sc_moved (fun vs H Q E h => ?_) (fun cdv A outer s H vs Q E hr h => ?_)
  · obtain ⟨B, ds, e, _, rv, ⟨c, ch, m, rfl, _⟩, _⟩ := h
    exact rv.len
  · refine ⟨_, PSs.nox (pss_cons (ps_expr (pe_d D_need_calendar (hr.mono (by decide)) (pa_cons (pv 0) (pa_cons pe_str pa_nil))))
      (pss_cons (ps_expr (pe_d D_need_number (hr.mono (by decide)) (pa_cons (pv 1) (pa_cons pe_str pa_nil))))
      (pss_cons (ps_setLc (i := 2) (own := [("place", 3)]) (wi := iRng1 (tCons (tLenC K) tNil)) (g := gName 3) (tt := tYes) (te := tByM K) rfl nd rfl ?hyl ?hsw ?hi (blkOk_by (own := [("place", 3)]) (N := NM) (sc := defScope (top 26)) (by decide +kernel)) ?hg ?ht ?he)
      (pss_one (ps_ret (pe_makeK (CX := CX0) (E := E0) M Oi (hr.mono (by decide)) (by rfl) T.Calendar (kb_init Fi) pass0 (pa_cons (pv 2) pa_nil) (pk_cons (pe_lc (own := [("slot", 4), ("works", 5)]) (wi := iSeq K (tFld K (tVar 0) "changes")) (g := gTup K 2 (gCons (gName 4) (gCons (gName 5) gNil))) (tt := tMvT) (te := tMvE) rfl nd ?hi2 (blkOk_by (own := [("slot", 4), ("works", 5)]) (N := NM) (sc := defScope (top 26)) (by decide +kernel)) ?hg2 ?ht2 ?he2) pk_nil))))))), ?rd⟩
    case hyl => rfl
    case hsw => rfl
    case hi => exact pi_range1 (by rfl) T.range (pa_cons (pe_callB call_len_seq (by rfl) T.len PySem.boot_len (pa_cons (pe_fld (pv 0) rfl) pa_nil)) pa_nil)
    case hg => exact fun _ _ _ _ _ => pg_name (i := 3) nd rfl (Or.inl rfl)
    case ht => exact fun _ _ _ _ _ => pts_nil
    case he => exact fun _ _ _ _ _ => pe_d D_by_cycle (hr.mono (by decide)) (pa_cons (pe_fld (pv 0) rfl) (pa_cons (pe_op op_add (pv 3) (pv 1)) pa_nil))
    case hi2 => exact pi_seq (pe_fld (pv 0) rfl)
    case hg2 => exact fun _ _ _ _ _ => pg_tup rfl (pgs_cons (pg_name (i := 4) nd rfl (Or.inl rfl)) (pgs_cons (pg_name (i := 5) nd rfl (Or.inl rfl)) pgs_nil))
    case ht2 => exact fun _ _ _ _ _ => pts_one (pt_cmpR op_ge (pv 4) (pv 1) (nomark _))
    case he2 => exact fun _ _ _ _ _ => pe_tup (pa_cons (pe_op op_sub (pv 4) (pv 1)) (pa_cons (pv 5) pa_nil))
    refine run_R h (fun ds e ⟨c, ch, m, e1, _⟩ => by rw [e1]; show 2 ≤ 6; decide) fun B0 H0 ds e ⟨c, ch, m, e1, O, m0, e2⟩ => ?_
    subst e1
    subst e2
    have c1 := O.l1
    have c2 := O.l2
    have c3 := O.l3
    refine s_seq (s_drop (d_needC (d_var rfl)) (s_seq (s_drop (d_needN (d_var rfl) m0) ?_)))
    have lc : ∀ n, EvO ⟨K, none, B0, H0⟩ (tLc (iRng1 (tCons (tLenC K) tNil)) (gName 3) tYes (tByM K) [3]) [.da (calD C c ch), .da (.int m), .no, .no, .no, .no] n fun ds k => ds = (mvC c m).map Da.bl ∧ k = n := fun n => by
      have hw := wk_range (n := n) (c := ⟨K, none, B0, H0⟩) (ρ := [.da (calD C c ch), .da (.int m), .no, .no, .no, .no]) (tr := tCons (tLenC K) tNil) (k := c.length) (a_cons (d_lenM (f := Da.bl) (l := c) (d_cyc (mg := mg) T (d_var rfl)) rfl) a_nil) (by omega)
      have z := o_lcK (c := ⟨K, none, B0, H0⟩) (ρ := [.da (calD C c ch), .da (.int m), .no, .no, .no, .no]) (n := n) (wi := iRng1 (tCons (tLenC K) tNil)) (g := gName 3) (tt := tYes) (te := tByM K) (vs := [3]) (N := c.length) (dd := Ly.upTo 0) (ρ2 := fun k => [.da (calD C c ch), .da (.int m), .no, .da (.int (0 + (k : Int))), .no, .no]) (b := fun _ => true) (el := fun k => .bl (byC c (0 + (k : Int) + m))) hw (by omega) (fun k hk => tw_name (by decide)) (fun k hk => t_yes) (fun k hk _ => d_byC (d_cyc (mg := mg) T (d_var rfl)) (d_int2 (d_var rfl) (d_var rfl)) (by omega) (by omega))
      have e : ((List.range c.length).filter fun _ => true).map (fun k : Nat => Da.bl (byC c (0 + (k : Int) + m))) = (mvC c m).map Da.bl := by
        unfold mvC
        rw [List.filter_eq_self.mpr fun _ _ => rfl, List.map_map]
        refine List.map_congr_left fun k _ => ?_
        show Da.bl _ = Da.bl (byC c ((k : Int) + m))
        rw [Int.zero_add]
      rw [e] at z
      exact z
    refine s_seq (s_set (d_ofO lc) ?_)
    have lc2 : ∀ n, EvO ⟨K, none, B0, H0⟩ (tLc (iSeq K (tFld K (tVar 0) "changes")) (gTup K 2 (gCons (gName 4) (gCons (gName 5) gNil))) tMvT tMvE [4, 5]) [.da (calD C c ch), .da (.int m), .da (.lst ((mvC c m).map Da.bl)), .no, .no, .no] n fun ds k => ds = (mvCh ch m).map chD ∧ k = n := fun n => by
      have hw := wk_seq (n := n) (c := ⟨K, none, B0, H0⟩) (ρ := [.da (calD C c ch), .da (.int m), .da (.lst ((mvC c m).map Da.bl)), .no, .no, .no]) (te := tFld K (tVar 0) "changes") (d := chsD ch) (ds := ch.map chD) (d_chs (mg := mg) T (d_var rfl)) rfl
      rw [List.length_map] at hw
      have z := o_lcK (c := ⟨K, none, B0, H0⟩) (ρ := [.da (calD C c ch), .da (.int m), .da (.lst ((mvC c m).map Da.bl)), .no, .no, .no]) (n := n) (wi := iSeq K (tFld K (tVar 0) "changes")) (g := gTup K 2 (gCons (gName 4) (gCons (gName 5) gNil))) (tt := tMvT) (te := tMvE) (vs := [4, 5]) (N := ch.length) (dd := nth (ch.map chD)) (ρ2 := fun k => [.da (calD C c ch), .da (.int m), .da (.lst ((mvC c m).map Da.bl)), .no, .da (.int (ch.getD k (0, false)).1), .da (.bl (ch.getD k (0, false)).2)]) (b := fun k => decide (m ≤ (ch.getD k (0, false)).1)) (el := fun k => chD ((ch.getD k (0, false)).1 - m, (ch.getD k (0, false)).2)) hw (by omega) (fun k hk => ?_) (fun k hk => t_test (d_cmp2 (g := fun i j => decide (j ≤ i)) (d_var rfl) (d_var rfl))) (fun k hk _ => d_tup (a_cons (d_int2 (d_var rfl) (d_var rfl)) (a_cons (d_var rfl) a_nil)) (by show 2 ≤ 100000; decide))
      · rw [range_filter ch (0, false) (fun q => decide (m ≤ q.1)) fun q => chD (q.1 - m, q.2)] at z
        unfold mvCh
        rw [List.map_map]
        exact z
      · rw [nth_map (0, false) hk]
        exact tw_tup rfl (tws_cons (tw_name (by decide)) (tws_cons (tw_name (by decide)) tws_nil))
    exact s_ret (d_make (C := C) (d1 := .lst ((mvC c m).map Da.bl)) (d2 := .lst ((mvCh ch m).map chD)) (d_var rfl) (d_ofO lc2) rfl rfl (mv_ok O m)) rfl
theorem d_moved {c : Ly.Ctx} {ρ : List Cell} {ta tb : TE} {C : Addr} {cy : List Bool} {ch : Chs} {m : Int} (ha : EvD c ta ρ (calD C cy ch)) (hb : EvD c tb ρ (.int m)) (O : CalOk cy ch) (m0 : 0 ≤ m) : EvD c (tCall (spR c.K (SMoved C)) [] E0 (tCons ta (tCons tb tNil))) ρ (calD C (mvC cy m) (mvCh ch m)) := d_call (a_cons ha (a_cons hb a_nil)) ⟨cy, ch, m, rfl, O, m0, rfl⟩
/-! ### _law_far -/
def farI (i : Int) : Prop := 0 ≤ i ∧ (i ≤ 9 ∨ 1000 ≤ i)
def SFar : List Da → Nat → Prop := fun ds n => ds = [] ∧ n ≤ 900000
def RFar : List Da → Nat → Da → Nat → Prop := fun _ n d n2 => ∃ far : Int, d = .int far ∧ farI far ∧ n2 = n + 1
theorem sc_far : FnScope ["_law_well_here"] ["_law_well_here"] (defScope (top 34)) := ⟨rfl, rfl, rfl, by decide +kernel, rfl, by decide +kernel, by decide +kernel⟩
theorem d_pow {c : Ly.Ctx} {ρ : List Cell} {i j : Int} (h : CPow i j) : EvD c (tOp (rI CPow fun i j => .int (i ^ j.toNat)) (tC (.int i)) (tC (.int j))) ρ (.int (i ^ j.toNat)) := d_int2c (g := fun i j => i ^ j.toNat) d_int d_int h
def farD : Da → Prop := fun d => ∃ i : Int, d = .int i ∧ farI i
theorem far_cons {d : Da} {ds : List Da} (h : farD d) (t : ∀ x ∈ ds, farD x) : ∀ x ∈ d :: ds, farD x := fun x hx => by
  rcases List.mem_cons.mp hx with e | e
  · rw [e]; exact h
  · exact t x e
theorem far_nil : ∀ x ∈ ([] : List Da), farD x := fun x hx => by cases hx
theorem ok_far (F : FnP K "_law_far" (top 34) f fd) (T : Txt K mg C) (D_law_one : Dn P w K mg base 2 "_law_one" ["_law_well_here", "_law_some"] (spW K Sone Rone)) : FnOk P w K mg base CX0 3 f fd ["_law_well_here"] (spW K SFar RFar) := by
  have nd := sc_far.nd
  refine F.ok sc_far (fun vs H Q E h => ?_) (fun cdv A outer s H vs Q E hr h => ?_)
  · obtain ⟨p, ws, B, ds, n, rfl, _, _, _, rv, ⟨e1, _⟩, _⟩ := h
    subst e1
    show ws.length + 1 = 1
    rw [rv.len]
    rfl
  · refine ⟨_, PSs.nox (pss_one (ps_ret (pe_d D_law_one (hr.mono (by decide)) (pa_cons (pv 0) (pa_cons (pe_lst (pa_cons pe_int (pa_cons pe_int (pa_cons pe_int (pa_cons (pe_op op_pow pe_int pe_int) (pa_cons (pe_op op_add (pe_op op_pow pe_int pe_int) pe_int) (pa_cons (pe_op op_pow pe_int pe_int) (pa_cons (pe_op op_sub (pe_op op_pow pe_int pe_int) pe_int) pa_nil)))))))) pa_nil))))), ?rd⟩
    refine run_W h (fun ds n ⟨e, _⟩ => by rw [e]; show 1 ≤ 1; decide) fun p B0 H0 ds n ⟨e, hn⟩ => ?_
    subst e
    refine s_retG (R := fun d m => farD d ∧ m = n + 1) ((g_one (n := n) rfl (d_lst (a_cons d_int (a_cons d_int (a_cons d_int (a_cons (d_pow ⟨by decide, by decide, by decide⟩) (a_cons (d_int2 (d_pow ⟨by decide, by decide, by decide⟩) d_int) (a_cons (d_pow ⟨by decide, by decide, by decide⟩) (a_cons (d_int2 (d_pow ⟨by decide, by decide, by decide⟩) d_int) a_nil))))))) (by show 7 ≤ 100000; decide)) (by show 1 ≤ 7; decide) (by show 7 ≤ 1000000; decide) (by omega)).imp fun d m ⟨hd, em⟩ => ⟨?_, em⟩) fun d m ⟨⟨i, e, i0⟩, em⟩ => ⟨i, e, i0, em⟩
    exact far_cons ⟨_, rfl, by decide, .inl (by decide)⟩ (far_cons ⟨_, rfl, by decide, .inl (by decide)⟩ (far_cons ⟨_, rfl, by decide, .inl (by decide)⟩ (far_cons ⟨_, rfl, by decide, .inr (by decide)⟩ (far_cons ⟨_, rfl, by decide, .inr (by decide)⟩ (far_cons ⟨_, rfl, by decide, .inr (by decide)⟩ (far_cons ⟨_, rfl, by decide, .inr (by decide)⟩ far_nil)))))) d hd
end

end Ca


set_option Elab.async false
set_option autoImplicit false
set_option linter.all false
set_option maxRecDepth 100000
set_option maxHeartbeats 4000000
namespace Ca
open PySem PySem.Spec PyProof.Rows L2 Cmb Ly Cal
/-! ### parts near to one -/
theorem atI_end {α : Type} {xs : List α} (h : 0 < xs.length) : atI xs (-1) = xs[xs.length - 1]? := by
  have e : ixN xs.length (-1) = some (xs.length - 1) := by
    unfold ixN
    rw [if_neg (by decide), if_pos (by omega)]
    congr 1
    omega
  unfold atI
  rw [e]
  rfl
theorem byC_twice (c : List Bool) (hL : 0 < c.length) (s : Int) : byC (List.replicate 2 c).flatten s = byC c s := by
  have ll : (List.replicate 2 c).flatten.length = 2 * c.length := rep_len c 2
  have b0 := Int.emod_nonneg s (show ((2 * c.length : Nat) : Int) ≠ 0 by omega)
  have b1 := Int.emod_lt_of_pos s (show (0 : Int) < ((2 * c.length : Nat) : Int) by omega)
  have dv : (c.length : Int) ∣ ((2 * c.length : Nat) : Int) := ⟨2, by rw [Int.natCast_mul, Int.mul_comm]; rfl⟩
  have e := Int.emod_emod_of_dvd s dv
  unfold byC
  rw [ll]
  generalize s % ((2 * c.length : Nat) : Int) = r at b0 b1 e
  rw [rep_at false c 2 r.toNat (by omega)]
  congr 1
  rw [← e]
  have : ((r.toNat % c.length : Nat) : Int) = r % (c.length : Int) := by rw [Int.natCast_emod, Int.toNat_of_nonneg b0]
  omega
theorem asc_filter (p : Int × Bool → Bool) : ∀ {ch : Chs} {lo : Int}, Asc lo ch → Asc lo (ch.filter p)
  | [], _, _ => True.intro
  | q :: r, lo, A => by
    by_cases h : p q = true
    · rw [List.filter_cons_of_pos h]
      exact ⟨A.1, asc_filter p A.2⟩
    · rw [List.filter_cons_of_neg h]
      exact (asc_filter p A.2).low (Int.le_of_lt A.1)
def win (far : Int) (h : Chs) : Prop := ∀ q ∈ h, q.1 ≤ 48 ∨ (far ≤ q.1 ∧ q.1 ≤ far + 48)
structure Pre (c : List Bool) (far : Int) (p : List Bool × Chs) : Prop where
  asc : Asc (-1) p.2
  l1 : 1 ≤ p.1.length
  nr : (∀ s, byC p.1 s = byC c s) ∨ win far p.2
def okB (p : List Bool × Chs) : Bool := decide ((p.1.length : Int) < 15) && (decide ((p.2.length : Int) < 11) && decide (true ∈ p.1))
theorem pre_ok {c : List Bool} {far : Int} {p : List Bool × Chs} (h : Pre c far p) (k : okB p = true) : CalOk p.1 p.2 := by
  unfold okB at k
  simp only [Bool.and_eq_true, decide_eq_true_eq] at k
  exact ⟨h.l1, by omega, k.2.2, by omega, h.asc⟩
def plainC (c : List Bool) (ch : Chs) : Chs := ch.filter fun q => q.2 != byC c q.1
def lastF (ch : Chs) (far : Int) : Int := if ch.isEmpty then far else lastS ch
def flipC (c : List Bool) (k : Nat) : List Bool := c.take k ++ [!c.getD k false] ++ c.drop (k + 1)
def seven (c : List Bool) (ch : Chs) (p1 : List Bool × Chs) (s : Int) (k : Nat) : List (List Bool × Chs) :=
  [(c, ch), p1, ((List.replicate 2 c).flatten, ch), (c, plainC c ch), (c, ch ++ [(s, byC c s)]), (c, ch ++ [(s, !byC c s)]), (flipC c k, ch)]
theorem lastF_ok {ch : Chs} {far : Int} (A : Asc (-1) ch) (f0 : 0 ≤ far) : -1 ≤ lastF ch far ∧ ∀ q ∈ ch, q.1 ≤ lastF ch far := by
  unfold lastF
  cases ch with
  | nil => exact ⟨by show -1 ≤ far; omega, fun q h => by cases h⟩
  | cons a r =>
    have h := asc_lastS A
    have h0 := Asc.lt A a List.mem_cons_self
    have h1 := h a List.mem_cons_self
    exact ⟨by show -1 ≤ lastS _; omega, h⟩
theorem seven_pre {c : List Bool} {ch : Chs} {far r : Int} {p1 : List Bool × Chs} {k : Nat} (O : CalOk c ch) (f0 : 0 ≤ far) (w : win far ch) (O1 : CalOk p1.1 p1.2) (w1 : win far p1.2) (r0 : 0 ≤ r) : ∀ p ∈ seven c ch p1 (lastF ch far + 1 + r) k, Pre c far p := by
  have c1 := O.l1
  obtain ⟨l1, l2⟩ := lastF_ok O.asc f0
  have put : ∀ b : Bool, Asc (-1) (ch ++ [(lastF ch far + 1 + r, b)]) := fun b => asc_put O.asc (fun q hq => by have := l2 q hq; omega) (by omega)
  intro p hp
  unfold seven at hp
  simp only [List.mem_cons, List.not_mem_nil, or_false] at hp
  rcases hp with e | e | e | e | e | e | e
  · subst e
    exact ⟨O.asc, c1, .inl fun _ => rfl⟩
  · subst e
    exact ⟨O1.asc, O1.l1, .inr w1⟩
  · subst e
    exact ⟨O.asc, by show 1 ≤ (List.replicate 2 c).flatten.length; rw [rep_len]; omega, .inl (byC_twice c (by omega))⟩
  · subst e
    exact ⟨asc_filter _ O.asc, c1, .inl fun _ => rfl⟩
  · subst e
    exact ⟨put _, c1, .inl fun _ => rfl⟩
  · subst e
    exact ⟨put _, c1, .inl fun _ => rfl⟩
  · subst e
    exact ⟨O.asc, by show 1 ≤ (flipC c k).length; unfold flipC; simp; omega, .inr w⟩
section
variable {P : Program} {w : World} {K : PySem.W.Frag} {mg : Str → Option Value} {base : Heap} {f f2 : Addr} {fd fd2 : FuncData} {C : Addr}
/-! ### _law_others -/
def SOth : List Da → Nat → Prop := fun ds n => ∃ (c : List Bool) (ch : Chs) (far : Int), ds = [partsD c ch, .int far] ∧ CalOk c ch ∧ 0 ≤ far ∧ win far ch ∧ n ≤ 800000
def ROth : List Da → Nat → Da → Nat → Prop := fun ds n d n2 => ∃ (c : List Bool) (ch : Chs) (far : Int) (L : List (List Bool × Chs)), ds = [partsD c ch, .int far] ∧ d = .lst (L.map fun p => partsD p.1 p.2) ∧ (∀ p ∈ L, CalOk p.1 p.2 ∧ Pre c far p) ∧ n2 ≤ n + 70
abbrev NO : List Str := ["_law_well_here", "_law_parts_here", "_law_far_here", "_law_whole_so", "_law_more", "_law_last", "_law_found", "_law_plain", "_law_one_here", "_law_slot", "_law_at"]
theorem sc_oth : FnScope NO ["_law_well_here", "_law_parts_here", "_law_far_here"] (defScope (top 35)) := ⟨rfl, rfl, rfl, by decide +kernel, rfl, by decide +kernel, by decide +kernel⟩
abbrev tLenV (K : PySem.W.Frag) (te : TE) : TE := tCB (fun xs H Q => ∃ p ys, xs = [.ref p] ∧ (SqL K H p ys ∨ SqT K H p ys) ∧ Q (.int ys.length) H) (tCons te tNil)
abbrev tInt1 (te : TE) : TE := tCB (fun xs H Q => (∃ i, xs = [.int i] ∧ Q (.int i) H) ∨ ∃ k, xs = [.bl k] ∧ Q (.int (if k then 1 else 0)) H) (tCons te tNil)
abbrev tModE : TE → TE → TE := fun a b => tOp (rI (fun _ j => 0 < j) fun i j => .int (i % j)) a b
abbrev tPlainT (K : PySem.W.Frag) : TT := tTest (tOp rNe (tOp (rIxT K) (tVar 8) (tC (.int 1))) (tOp (rIxT K) (tVar 3) (tModE (tInt1 (tOp (rIxT K) (tVar 8) (tC (.int 0)))) (tLenV K (tVar 3)))))
abbrev tOkT (K : PySem.W.Frag) : TT := tAnd (tTest (tOp (rI0 fun i j => .bl (decide (i < j))) (tLenV K (tOp (rIxT K) (tVar 8) (tC (.int 0)))) (tC (.int 15)))) (tAnd (tTest (tOp (rI0 fun i j => .bl (decide (i < j))) (tLenV K (tOp (rIxT K) (tVar 8) (tC (.int 1)))) (tC (.int 11)))) (tTest (tOp (rIn K false) (tC (.bl true)) (tOp (rIxT K) (tVar 8) (tC (.int 0))))))
theorem ok_oth (F : FnP K "_law_others" (top 35) f fd) (T : Txt K mg C) (D_law_draw : Dn P w K mg base 1 "_law_draw" ["_law_well_here", "_law_many"] (spW K Sdraw Rdraw)) (D_law_one : Dn P w K mg base 2 "_law_one" ["_law_well_here", "_law_some"] (spW K Sone Rone)) (D_law_parts : Dn P w K mg base 2 "_law_parts" ["_law_well_here", "_law_far_here"] (spW K SParts RParts)) : FnOk P w K mg base CX0 3 f fd ["_law_well_here", "_law_parts_here", "_law_far_here"] (spW K SOth ROth) := by
  have nd := sc_oth.nd
  refine F.ok sc_oth (fun vs H Q E h => ?_) (fun cdv A outer s H vs Q E hr h => ?_)
  · obtain ⟨p, ws, B, ds, n, rfl, _, _, _, rv, ⟨c, ch, far, e1, _⟩, _⟩ := h
    subst e1
    show ws.length + 1 = 3
    rw [rv.len]
    rfl
  · refine ⟨_, PSs.nox (pss_cons (ps_asg (pv 1) (pg_tup rfl (pgs_cons (pg_name (i := 3) nd rfl (Or.inr rfl)) (pgs_cons (pg_name (i := 4) nd rfl (Or.inl rfl)) pgs_nil))))
      (pss_cons (ps_set (i := 5) nd rfl (Or.inl rfl) (pe_ifExp (pt_cmpR (op_neD hr.units) (pv 4) (pe_tup pa_nil) (nomark _)) (pe_ix ix_tup (pe_ix ix_tup (pv 4) (pe_un un_neg pe_int) (fun _ _ => rfl)) pe_int (fun _ _ => rfl)) (pv 2)))
      (pss_cons (ps_set (i := 6) nd rfl (Or.inl rfl) (pe_lst (pa_cons (pe_tup (pa_cons (pv 3) (pa_cons (pv 4) pa_nil))) (pa_cons (pe_d D_law_parts (hr.mono (by decide)) (pa_cons (pv 0) (pa_cons (pe_d D_law_one (hr.mono (by decide)) (pa_cons (pv 0) (pa_cons (pe_lst (pa_cons pe_int (pa_cons (pv 2) pa_nil))) pa_nil))) pa_nil))) (pa_cons (pe_tup (pa_cons (pe_op op_repA (pv 3) pe_int) (pa_cons (pv 4) pa_nil))) pa_nil)))))
      (pss_cons (ps_set (i := 7) nd rfl (Or.inl rfl) (pe_callTy call_tuple_of (by rfl) T.tuple (by decide +kernel) (pa_cons (pe_lc (own := [("_law_one_here", 8)]) (wi := iSeq K (tVar 4)) (g := gName 8) (tt := tPlainT K) (te := tVar 8) rfl nd ?hi (blkOk_by (own := [("_law_one_here", 8)]) (N := NO) (sc := defScope (top 35)) (by decide +kernel)) ?hg ?ht ?he) pa_nil)))
      (pss_cons (ps_expr (pe_bm PySem.F.plainAttrs_list PySem.F.slot_list_append PySem.F.type_list_append mt_append (pv 6) (pa_cons (pe_tup (pa_cons (pv 3) (pa_cons (pv 7) pa_nil))) pa_nil)))
      (pss_cons (ps_set (i := 9) nd rfl (Or.inl rfl) (pe_op op_add (pe_op op_add (pv 5) pe_int) (pe_d D_law_draw (hr.mono (by decide)) (pa_cons (pv 0) (pa_cons pe_int pa_nil)))))
      (pss_cons (ps_expr (pe_bm PySem.F.plainAttrs_list PySem.F.slot_list_append PySem.F.type_list_append mt_append (pv 6) (pa_cons (pe_tup (pa_cons (pv 3) (pa_cons (pe_op op_catA (pv 4) (pe_tup (pa_cons (pe_tup (pa_cons (pv 9) (pa_cons (pe_ix ix_tup (pv 3) (pe_op op_mod (pe_callTy call_int1 (by rfl) T.int (by decide +kernel) (pa_cons (pv 9) pa_nil)) (pe_callB call_len_seq (by rfl) T.len PySem.boot_len (pa_cons (pv 3) pa_nil))) (fun _ _ => rfl)) pa_nil))) pa_nil))) pa_nil))) pa_nil)))
      (pss_cons (ps_expr (pe_bm PySem.F.plainAttrs_list PySem.F.slot_list_append PySem.F.type_list_append mt_append (pv 6) (pa_cons (pe_tup (pa_cons (pv 3) (pa_cons (pe_op op_catA (pv 4) (pe_tup (pa_cons (pe_tup (pa_cons (pv 9) (pa_cons (pe_not (pe_ix ix_tup (pv 3) (pe_op op_mod (pe_callTy call_int1 (by rfl) T.int (by decide +kernel) (pa_cons (pv 9) pa_nil)) (pe_callB call_len_seq (by rfl) T.len PySem.boot_len (pa_cons (pv 3) pa_nil))) (fun _ _ => rfl))) pa_nil))) pa_nil))) pa_nil))) pa_nil)))
      (pss_cons (ps_set (i := 10) nd rfl (Or.inl rfl) (pe_d D_law_draw (hr.mono (by decide)) (pa_cons (pv 0) (pa_cons (pe_callB call_len_seq (by rfl) T.len PySem.boot_len (pa_cons (pv 3) pa_nil)) pa_nil))))
      (pss_cons (ps_expr (pe_bm PySem.F.plainAttrs_list PySem.F.slot_list_append PySem.F.type_list_append mt_append (pv 6) (pa_cons (pe_tup (pa_cons (pe_op op_catA (pe_op op_catA (pe_slice sl_tupA (pv 3) po_none (po_some (pv 10))) (pe_tup (pa_cons (pe_not (pe_ix ix_tup (pv 3) (pv 10) (fun _ _ => rfl))) pa_nil))) (pe_slice sl_tupA (pv 3) (po_some (pe_op op_add (pv 10) pe_int)) po_none)) (pa_cons (pv 4) pa_nil))) pa_nil)))
      (pss_one (ps_ret (pe_lc (own := [("_law_one_here", 8)]) (wi := iSeq K (tVar 6)) (g := gName 8) (tt := tOkT K) (te := tVar 8) rfl nd ?hi2 (blkOk_by (own := [("_law_one_here", 8)]) (N := NO) (sc := defScope (top 35)) (by decide +kernel)) ?hg2 ?ht2 ?he2))))))))))))), ?rd⟩
    case hi => exact pi_seq (pv 4)
    case hg => exact fun _ _ _ _ _ => pg_name (i := 8) nd rfl (Or.inl rfl)
    case ht => exact fun _ _ _ _ _ => pts_one (pt_cmpR op_ne (pe_ix ix_tup (pv 8) pe_int (fun _ _ => rfl)) (pe_ix ix_tup (pv 3) (pe_op op_mod (pe_callTy call_int1 (by rfl) T.int (by decide +kernel) (pa_cons (pe_ix ix_tup (pv 8) pe_int (fun _ _ => rfl)) pa_nil)) (pe_callB call_len_seq (by rfl) T.len PySem.boot_len (pa_cons (pv 3) pa_nil))) (fun _ _ => rfl)) (nomark _))
    case he => exact fun _ _ _ _ _ => pv 8
    case hi2 => exact pi_seq (pv 6)
    case hg2 => exact fun _ _ _ _ _ => pg_name (i := 8) nd rfl (Or.inl rfl)
    case ht2 => exact fun _ _ _ _ _ => pts_one (PW.pt (pw_and (pt_cmpR op_lt (pe_callB call_len_seq (by rfl) T.len PySem.boot_len (pa_cons (pe_ix ix_tup (pv 8) pe_int (fun _ _ => rfl)) pa_nil)) pe_int (nomark _)) (pw_and (pt_cmpR op_lt (pe_callB call_len_seq (by rfl) T.len PySem.boot_len (pa_cons (pe_ix ix_tup (pv 8) pe_int (fun _ _ => rfl)) pa_nil)) pe_int (nomark _)) (pw_and1 (pt_cmpR op_in_seq pe_bl (pe_ix ix_tup (pv 8) pe_int (fun _ _ => rfl)) (by rfl))))))
    case he2 => exact fun _ _ _ _ _ => pv 8
    refine run_W h (fun ds n ⟨c, ch, far, e, _⟩ => by rw [e]; show 3 ≤ 11; decide) fun p B0 H0 ds n ⟨c, ch, far, e, O, f0, hw, hn⟩ => ?_
    subst e
    have c1 := O.l1
    have c2 := O.l2
    have c3 := O.l3
    refine s_seq (s_asg (d_var rfl) (tg_tup rfl (tgs_cons tg_name (tgs_cons tg_name tgs_nil))) ?_)
    refine s_seq (s_set (d_if (d := .int (lastF ch far)) (t_test (d_someCh (d_var rfl))) (fun z => ?_) fun z => (d_var rfl).eq ?_) ?_)
    · have hne : 0 < ch.length := by
        cases ch with
        | nil => cases z
        | cons a r => exact Nat.succ_pos _
      have ei : atI (ch.map chD) (-1) = some (chD (ch.getD (ch.length - 1) (0, false))) := by
        rw [atI_end (by rw [List.length_map]; exact hne), List.length_map, List.getElem?_map, getD_at (d := (0, false)) (by omega)]
        rfl
      refine (d_ixT (ds := [.int (ch.getD (ch.length - 1) (0, false)).1, .bl (ch.getD (ch.length - 1) (0, false)).2]) (d_ixT (ds := ch.map chD) (d_var rfl) (d_neg d_int) ei) d_int rfl).eq ?_
      unfold lastF lastS
      cases ch with
      | nil => cases z
      | cons a r => rfl
    · cases ch with
      | nil => rfl
      | cons a r => cases z
    refine s_seq (s_setO (R' := fun ds m => ∃ p1 : List Bool × Chs, ds = [partsD c ch, partsD p1.1 p1.2, partsD (List.replicate 2 c).flatten ch] ∧ CalOk p1.1 p1.2 ∧ win far p1.2 ∧ m ≤ n + 61) (o_lst ?_ fun ds m ⟨p1, e, _⟩ => by rw [e]; show 3 ≤ 100000; decide) fun ds m ⟨p1, e, O1, w1, hm⟩ => ?_)
    · refine ga_cons (fun d m => d = partsD c ch ∧ m = n) ((d_tup (a_cons (d_var rfl) (a_cons (d_var rfl) a_nil)) (by show 2 ≤ 100000; decide)).g ⟨rfl, rfl⟩) fun d m ⟨e1, e2⟩ => ?_
      subst e1
      subst e2
      refine ga_cons (fun d k => ∃ p1 : List Bool × Chs, d = partsD p1.1 p1.2 ∧ CalOk p1.1 p1.2 ∧ win far p1.2 ∧ k ≤ m + 61) (g_callW (Ra := fun ds k => (ds = [.int 0] ∨ ds = [.int far]) ∧ k = m + 1) rfl (ga_cons (fun d k => d ∈ [.int 0, .int far] ∧ k = m + 1) (g_one rfl (d_lst (a_cons d_int (a_cons (d_var rfl) a_nil)) (by show 2 ≤ 100000; decide)) (by show 1 ≤ 2; decide) (by show 2 ≤ 1000000; decide) (by omega)) fun d k ⟨hd, hk⟩ => a_nil.g ⟨?_, hk⟩) fun ds k ⟨e1, e2⟩ => ?_) fun d k ⟨p1, e, O1, w1, hk⟩ => ?_
      · simp only [List.mem_cons, List.not_mem_nil, or_false] at hd
        rcases hd with e | e
        · exact .inl (by rw [e])
        · exact .inr (by rw [e])
      · subst e2
        rcases e1 with e1 | e1
        · subst e1
          refine ⟨⟨0, rfl, by decide, by omega⟩, fun d j ⟨far', cy, h, z1, z2, O1, _, hb, hj⟩ => ?_⟩
          cases z1
          exact ⟨(cy, h), z2, O1, fun q hq => .inl (by have := hb q hq; omega), by omega⟩
        · subst e1
          refine ⟨⟨far, rfl, f0, by omega⟩, fun d j ⟨far', cy, h, z1, z2, O1, ha, hb, hj⟩ => ?_⟩
          cases z1
          exact ⟨(cy, h), z2, O1, fun q hq => .inr ⟨by have := Asc.lt ha q hq; omega, hb q hq⟩, by omega⟩
      · subst e
        exact (a_cons ((d_tup (a_cons (d_repA (k := 2) (ds := c.map .bl) (d_var rfl) d_int (by decide) (by decide) (fun z => by
          have := congrArg List.length z
          rw [List.length_map] at this
          have : c.length = 0 := this
          omega) (by rw [List.length_map]; omega)) (a_cons (d_var rfl) a_nil)) (by show 2 ≤ 100000; decide)).eq (e := partsD (List.replicate 2 c).flatten ch) (by
            show Da.tup [Da.tup _, _] = Da.tup [Da.tup _, _]
            rw [List.map_flatten, List.map_replicate])) a_nil).g ⟨p1, rfl, O1, w1, hk⟩
    subst e
    have lc : ∀ j, EvO ⟨K, some p, B0, H0⟩ (tLc (iSeq K (tVar 4)) (gName 8) (tPlainT K) (tVar 8) [8]) [.wl, .da (partsD c ch), .da (.int far), .da (cycD c), .da (chsD ch), .da (.int (lastF ch far)), .own [partsD c ch, partsD p1.1 p1.2, partsD (List.replicate 2 c).flatten ch], .no, .no, .no, .no] j fun ds k => ds = (plainC c ch).map chD ∧ k = j := fun j => by
      have hwk := wk_seq (n := j) (c := ⟨K, some p, B0, H0⟩) (ρ := [.wl, .da (partsD c ch), .da (.int far), .da (cycD c), .da (chsD ch), .da (.int (lastF ch far)), .own [partsD c ch, partsD p1.1 p1.2, partsD (List.replicate 2 c).flatten ch], .no, .no, .no, .no]) (te := tVar 4) (d := chsD ch) (ds := ch.map chD) (d_var rfl) rfl
      rw [List.length_map] at hwk
      have z := o_lcK (c := ⟨K, some p, B0, H0⟩) (ρ := [.wl, .da (partsD c ch), .da (.int far), .da (cycD c), .da (chsD ch), .da (.int (lastF ch far)), .own [partsD c ch, partsD p1.1 p1.2, partsD (List.replicate 2 c).flatten ch], .no, .no, .no, .no]) (n := j) (wi := iSeq K (tVar 4)) (g := gName 8) (tt := tPlainT K) (te := tVar 8) (vs := [8]) (N := ch.length) (dd := nth (ch.map chD)) (ρ2 := fun k => [.wl, .da (partsD c ch), .da (.int far), .da (cycD c), .da (chsD ch), .da (.int (lastF ch far)), .own [partsD c ch, partsD p1.1 p1.2, partsD (List.replicate 2 c).flatten ch], .no, .da (chD (ch.getD k (0, false))), .no, .no]) (b := fun k => (ch.getD k (0, false)).2 != byC c (ch.getD k (0, false)).1) (el := fun k => chD (ch.getD k (0, false))) hwk (by omega) (fun k hk => ?_) (fun k hk => ?_) (fun k hk _ => d_var rfl)
      · rw [range_filter ch (0, false) (fun q => q.2 != byC c q.1) chD] at z
        exact z
      · rw [nth_map (0, false) hk]
        exact tw_name (by decide)
      · have b0 := Int.emod_nonneg (ch.getD k (0, false)).1 (show (c.length : Int) ≠ 0 by omega)
        have b1 := Int.emod_lt_of_pos (ch.getD k (0, false)).1 (show (0 : Int) < (c.length : Int) by omega)
        exact t_test (d_neB (d_ixT (ds := [.int (ch.getD k (0, false)).1, .bl (ch.getD k (0, false)).2]) (d_var rfl) d_int rfl) (d_ixT (ds := c.map .bl) (d := .bl (byC c (ch.getD k (0, false)).1)) (d_var rfl) (d_int2c (d_int1 (d_ixT (ds := [.int (ch.getD k (0, false)).1, .bl (ch.getD k (0, false)).2]) (d_var rfl) d_int rfl)) (d_lenM (f := Da.bl) (l := c) (d_var rfl) rfl) (by show (0 : Int) < _; omega)) (atI_map (f := Da.bl) false b0 b1)))
    have pl : (plainC c ch).length ≤ 10 := Nat.le_trans (List.length_filter_le _ _) c3
    refine s_seq (s_set (d := chsD (plainC c ch)) (d_tuple (d_ofO lc)) ?_)
    refine s_seq (s_app (i := 6) rfl (d := partsD c (plainC c ch)) (d_tup (a_cons (d_var rfl) (a_cons (d_var rfl) a_nil)) (by show 2 ≤ 100000; decide)) (by show 3 < 100000; decide) ?_)
    refine s_seq (s_setG (R := fun d k => ∃ r : Int, d = .int (lastF ch far + 1 + r) ∧ 0 ≤ r ∧ k = m + 1) (g_opL (d_int2 (d_var rfl) d_int) ((g_draw (m := 300) rfl d_int (by decide) (by decide) (by omega)).imp fun d k ⟨r, e, r0, _, hk⟩ => ⟨r, .int (lastF ch far + 1 + r), e, fun _ => .int _, r, rfl, r0, hk⟩)) fun d k ⟨r, e, r0, hk⟩ => ?_)
    subst e
    generalize hs : lastF ch far + 1 + r = s
    have b0 := Int.emod_nonneg s (show (c.length : Int) ≠ 0 by omega)
    have b1 := Int.emod_lt_of_pos s (show (0 : Int) < (c.length : Int) by omega)
    have dby : ∀ {ρ : List Cell}, ρ[3]? = some (.da (cycD c)) → ρ[9]? = some (.da (.int s)) → EvD ⟨K, some p, B0, H0⟩ (tOp (rIxT K) (tVar 3) (tModE (tInt1 (tVar 9)) (tLenV K (tVar 3)))) ρ (.bl (byC c s)) := fun z1 z2 => d_ixT (ds := c.map .bl) (d_var z1) (d_int2c (d_int1 (d_var z2)) (d_lenM (f := Da.bl) (l := c) (d_var z1) rfl) (by show (0 : Int) < _; omega)) (atI_map (f := Da.bl) false b0 b1)
    have dput : ∀ {ρ : List Cell} {te : TE} {b : Bool}, ρ[3]? = some (.da (cycD c)) → ρ[4]? = some (.da (chsD ch)) → ρ[9]? = some (.da (.int s)) → EvD ⟨K, some p, B0, H0⟩ te ρ (.bl b) → EvD ⟨K, some p, B0, H0⟩ (tTup (tCons (tVar 3) (tCons (tOp (rCatA K) (tVar 4) (tTup (tCons (tTup (tCons (tVar 9) (tCons te tNil))) tNil))) tNil))) ρ (partsD c (ch ++ [(s, b)])) := fun {ρ te b} z1 z2 z3 hb => (d_tup (a_cons (d_var z1) (a_cons (d_catT (ds := ch.map chD) (es := [chD (s, b)]) (d_var z2) (d_tup (a_cons (d_tup (a_cons (d_var z3) (a_cons hb a_nil)) (by show 2 ≤ 100000; decide)) a_nil) (by show 1 ≤ 100000; decide)) (by rw [List.length_map]; show ch.length + 1 ≤ 100000; omega)) a_nil)) (by show 2 ≤ 100000; decide)).eq (by
      show Da.tup [_, Da.tup _] = Da.tup [_, Da.tup _]
      rw [List.map_append]
      rfl)
    refine s_seq (s_app (i := 6) rfl (dput rfl rfl rfl (dby rfl rfl)) (by show 4 < 100000; decide) ?_)
    refine s_seq (s_app (i := 6) rfl (dput rfl rfl rfl (d_not (dby rfl rfl))) (by show 5 < 100000; decide) ?_)
    refine s_seq (s_setG (g_draw (m := (c.length : Int)) rfl (d_lenM (f := Da.bl) (l := c) (d_var rfl) rfl) (by omega) (by omega) (by omega)) fun d k2 ⟨t, e, t0, t1, hk2⟩ => ?_)
    subst e
    obtain ⟨a, ea⟩ : ∃ a : Nat, t = (a : Int) := ⟨t.toNat, by omega⟩
    subst ea
    have dflip : ∀ {ρ : List Cell}, ρ[3]? = some (.da (cycD c)) → ρ[10]? = some (.da (.int (a : Int))) → EvD ⟨K, some p, B0, H0⟩ (tOp (rCatA K) (tOp (rCatA K) (tSl (rSlA K) (tVar 3) tNoPart (tPart (tVar 10))) (tTup (tCons (tNotV (tOp (rIxT K) (tVar 3) (tVar 10))) tNil))) (tSl (rSlA K) (tVar 3) (tPart (tOp (rI0 fun i j => .int (i + j)) (tVar 10) (tC (.int 1)))) tNoPart)) ρ (cycD (flipC c a)) := fun {ρ} z1 z2 => (d_catT (d_catT (d_cutTo (k := a) (ds := c.map .bl) (d_var z1) (d_var z2)) (d_tup (a_cons (d_not (d_ixT (ds := c.map .bl) (d := .bl (c.getD a false)) (d_var z1) (d_var z2) (by
        have := atI_map (f := Da.bl) (l := c) (i := (a : Int)) false (by omega) t1
        rwa [Int.toNat_natCast] at this))) a_nil) (by show 1 ≤ 100000; decide)) (by rw [List.length_take, List.length_map]; show _ + 1 ≤ _; omega)) (d_cutOff (k := a + 1) (ds := c.map .bl) (d_var z1) ((d_int2 (d_var z2) d_int).eq (by rw [Int.natCast_add]; rfl))) (by rw [List.length_append, List.length_take, List.length_drop, List.length_map]; show _ + 1 + _ ≤ _; omega)).eq (by
      show Da.tup _ = Da.tup _
      unfold flipC
      rw [List.map_append, List.map_append, List.map_take, List.map_drop]
      rfl)
    refine s_seq (s_app (i := 6) rfl (d := partsD (flipC c a) ch) (d_tup (a_cons (dflip rfl rfl) (a_cons (d_var rfl) a_nil)) (by show 2 ≤ 100000; decide)) (by show 6 < 100000; decide) ?_)
    refine s_freeze (i := 6) (ds := (seven c ch p1 s a).map fun q => partsD q.1 q.2) rfl ?_
    have pre := seven_pre (k := a) O f0 hw O1 w1 r0
    rw [hs] at pre
    have l7 : (seven c ch p1 s a).length = 7 := rfl
    generalize seven c ch p1 s a = L at pre l7
    have lc2 : ∀ j, EvO ⟨K, some p, B0, H0⟩ (tLc (iSeq K (tVar 6)) (gName 8) (tOkT K) (tVar 8) [8]) [.wl, .da (partsD c ch), .da (.int far), .da (cycD c), .da (chsD ch), .da (.int (lastF ch far)), .da (.lst (L.map fun q => partsD q.1 q.2)), .da (chsD (plainC c ch)), .no, .da (.int s), .da (.int (a : Int))] j fun ds k => ds = (L.filter okB).map (fun q => partsD q.1 q.2) ∧ k = j := fun j => by
      have hwk := wk_seq (n := j) (c := ⟨K, some p, B0, H0⟩) (ρ := [.wl, .da (partsD c ch), .da (.int far), .da (cycD c), .da (chsD ch), .da (.int (lastF ch far)), .da (.lst (L.map fun q => partsD q.1 q.2)), .da (chsD (plainC c ch)), .no, .da (.int s), .da (.int (a : Int))]) (te := tVar 6) (d := .lst (L.map fun q => partsD q.1 q.2)) (ds := L.map fun q => partsD q.1 q.2) (d_var rfl) rfl
      rw [List.length_map] at hwk
      have z := o_lcK (c := ⟨K, some p, B0, H0⟩) (ρ := [.wl, .da (partsD c ch), .da (.int far), .da (cycD c), .da (chsD ch), .da (.int (lastF ch far)), .da (.lst (L.map fun q => partsD q.1 q.2)), .da (chsD (plainC c ch)), .no, .da (.int s), .da (.int (a : Int))]) (n := j) (wi := iSeq K (tVar 6)) (g := gName 8) (tt := tOkT K) (te := tVar 8) (vs := [8]) (N := L.length) (dd := nth (L.map fun q => partsD q.1 q.2)) (ρ2 := fun k => [.wl, .da (partsD c ch), .da (.int far), .da (cycD c), .da (chsD ch), .da (.int (lastF ch far)), .da (.lst (L.map fun q => partsD q.1 q.2)), .da (chsD (plainC c ch)), .da (partsD (L.getD k ([], [])).1 (L.getD k ([], [])).2), .da (.int s), .da (.int (a : Int))]) (b := fun k => okB (L.getD k ([], []))) (el := fun k => partsD (L.getD k ([], [])).1 (L.getD k ([], [])).2) hwk (by omega) (fun k hk => ?_) (fun k hk => ?_) (fun k hk _ => d_var rfl)
      · rw [range_filter L ([], []) okB fun q => partsD q.1 q.2] at z
        exact z
      · rw [nth_map (f := fun q : List Bool × Chs => partsD q.1 q.2) ([], []) hk]
        exact tw_name (by decide)
      · generalize L.getD k ([], []) = q
        have at0 : EvD ⟨K, some p, B0, H0⟩ (tOp (rIxT K) (tVar 8) (tC (.int 0))) [.wl, .da (partsD c ch), .da (.int far), .da (cycD c), .da (chsD ch), .da (.int (lastF ch far)), .da (.lst (L.map fun q => partsD q.1 q.2)), .da (chsD (plainC c ch)), .da (partsD q.1 q.2), .da (.int s), .da (.int (a : Int))] (cycD q.1) := d_ixT (ds := [cycD q.1, chsD q.2]) (d_var rfl) d_int rfl
        have at1 : EvD ⟨K, some p, B0, H0⟩ (tOp (rIxT K) (tVar 8) (tC (.int 1))) [.wl, .da (partsD c ch), .da (.int far), .da (cycD c), .da (chsD ch), .da (.int (lastF ch far)), .da (.lst (L.map fun q => partsD q.1 q.2)), .da (chsD (plainC c ch)), .da (partsD q.1 q.2), .da (.int s), .da (.int (a : Int))] (chsD q.2) := d_ixT (ds := [cycD q.1, chsD q.2]) (d_var rfl) d_int rfl
        exact t_and (t_test (d_cmp2 (g := fun i j => decide (i < j)) (d_lenM (f := Da.bl) (l := q.1) at0 rfl) d_int)) fun _ => t_and (t_test (d_cmp2 (g := fun i j => decide (i < j)) (d_lenM (f := chD) (l := q.2) at1 rfl) d_int)) fun _ => t_test (d_op d_bl at0 (od_inB (l := q.1) rfl))
    refine s_ret (d_ofO lc2) ⟨c, ch, far, L.filter okB, rfl, rfl, fun q hq => ?_, by omega⟩
    obtain ⟨h1, h2⟩ := List.mem_filter.mp hq
    exact ⟨pre_ok (pre q h1) h2, pre q h1⟩
end

end Ca


set_option Elab.async false
set_option autoImplicit false
set_option linter.all false
set_option maxRecDepth 100000
set_option maxHeartbeats 4000000
namespace Ca
open PySem PySem.Spec PyProof.Rows L2 Cmb Ly Cal
/-! ### both looks are the same -/
theorem told_mem {h1 h2 : Chs} {x : Int} : x ∈ told h1 h2 ↔ ∃ q, (q ∈ h1 ∨ q ∈ h2) ∧ q.1 = x := by
  unfold told
  rw [(srtI_perm _).mem_iff, List.mem_map]
  constructor
  · rintro ⟨q, m, e⟩
    exact ⟨q, List.mem_append.mp m, e⟩
  · rintro ⟨q, m, e⟩
    exact ⟨q, List.mem_append.mpr m, e⟩
theorem told_comm (h1 h2 : Chs) : told h2 h1 = told h1 h2 := by
  refine srtI_uni ?_ (srtI_asc _)
  refine (srtI_perm _).trans ?_
  exact List.Perm.map _ List.perm_append_comm
theorem dif_comm (c1 : List Bool) (h1 : Chs) (c2 : List Bool) (h2 : Chs) : dif c2 h2 c1 h1 = dif c1 h1 c2 h2 := by
  funext s
  unfold dif
  cases works c1 h1 s <;> cases works c2 h2 s <;> rfl
theorem works_off {c1 : List Bool} {h1 h2 : Chs} {s : Int} (h : s ∉ told h1 h2) : works c1 h1 s = byC c1 s := works_not c1 fun q hq e => h (told_mem.mpr ⟨q, .inl hq, e⟩)
theorem works_off2 {c2 : List Bool} {h1 h2 : Chs} {s : Int} (h : s ∉ told h1 h2) : works c2 h2 s = byC c2 s := works_not c2 fun q hq e => h (told_mem.mpr ⟨q, .inr hq, e⟩)
theorem byC_dvd (c : List Bool) {T : Nat} (h : c.length ∣ T) (s k : Int) : byC c (s + k * (T : Int)) = byC c s := by
  obtain ⟨m, e⟩ := h
  have : k * (T : Int) = (k * (m : Int)) * (c.length : Int) := by
    rw [e, Int.natCast_mul, Int.mul_assoc, Int.mul_comm (m : Int)]
  rw [this, byC_turn]
theorem dif_ok {c1 : List Bool} {h1 : Chs} {c2 : List Bool} {h2 : Chs} (O1 : CalOk c1 h1) (O2 : CalOk c2 h2) : DOk (dif c1 h1 c2 h2) (told h1 h2) (Nat.lcm c1.length c2.length) := by
  refine ⟨srtI_asc _, fun x hx => ?_, ?_, fun s k n1 n2 => ?_⟩
  · obtain ⟨q, m, e⟩ := told_mem.mp hx
    rcases m with m | m
    · have := Asc.lt O1.asc q m
      omega
    · have := Asc.lt O2.asc q m
      omega
  · exact Nat.lcm_pos O1.l1 O2.l1
  · unfold dif
    rw [works_off n1, works_off n2, works_off2 n1, works_off2 n2, byC_dvd c1 (Nat.dvd_lcm_left _ _), byC_dvd c2 (Nat.dvd_lcm_right _ _)]
theorem free_or {c : List Bool} {ch : Chs} {far : Int} {p : List Bool × Chs} (O : CalOk c ch) (O2 : CalOk p.1 p.2) (hf : farI far) (w : win far ch) (pre : Pre c far p) : Free (told ch p.2) (Nat.lcm c.length p.1.length) ∨ ∀ s, s ∉ told ch p.2 → dif c ch p.1 p.2 s = false := by
  rcases pre.nr with h | w2
  · refine .inr fun s n => ?_
    unfold dif
    rw [works_off n, works_off2 n, h s]
    cases byC c s <;> rfl
  · have lT : Nat.lcm c.length p.1.length ≤ 196 := Nat.le_trans (Nat.le_of_dvd (Nat.mul_pos O.l1 O2.l1) (Nat.lcm_dvd_mul _ _)) (Nat.le_trans (Nat.mul_le_mul O.l2 O2.l2) (by decide))
    have wt : ∀ x ∈ told ch p.2, x ≤ 48 ∨ (far ≤ x ∧ x ≤ far + 48) := fun x hx => by
      obtain ⟨q, m, e⟩ := told_mem.mp hx
      subst e
      rcases m with m | m
      · exact w q m
      · exact w2 q m
    refine .inl ?_
    obtain ⟨f0, f1 | f1⟩ := hf
    · exact ⟨58, by decide, by omega, fun x hx => by have := wt x hx; omega⟩
    · exact ⟨49, by decide, by omega, fun x hx => by have := wt x hx; omega⟩
theorem both {c : List Bool} {ch : Chs} {far : Int} {p : List Bool × Chs} (O : CalOk c ch) (O2 : CalOk p.1 p.2) (hf : farI far) (w : win far ch) (pre : Pre c far p) : progD (dif c ch p.1 p.2) (Nat.lcm c.length p.1.length) (0 :: told ch p.2) = fstIn (dif c ch p.1 p.2) (rngI 0 420 ++ told ch p.2) := dif_both (dif_ok O O2) (free_or O O2 hf w pre)
theorem both2 {c : List Bool} {ch : Chs} {far : Int} {p : List Bool × Chs} (O : CalOk c ch) (O2 : CalOk p.1 p.2) (hf : farI far) (w : win far ch) (pre : Pre c far p) : progD (dif p.1 p.2 c ch) (Nat.lcm p.1.length c.length) (0 :: told p.2 ch) = fstIn (dif c ch p.1 p.2) (rngI 0 420 ++ told ch p.2) := by
  rw [dif_comm, told_comm, Nat.lcm_comm]
  exact both O O2 hf w pre
def turnP (c : List Bool) (ch : Chs) : PyData := .tuple ([firstT c ch 0, (perd c : Int)].map .int)
theorem turn_py (c : List Bool) (ch : Chs) : (turnD c ch).py = some (turnP c ch) := tup_py (f := Da.int) (g := PyData.int) (fun i => by unfold Da.py; rfl) [firstT c ch 0, (perd c : Int)]
theorem turn_shaped (c : List Bool) (ch : Chs) : SeqAt.shaped (turnP c ch) = true := shaped_tup (g := PyData.int) (fun i => by unfold PyData.canLay0; rfl) (fun i => by unfold PyData.depth; decide) _
theorem turn_refl (c : List Bool) (ch : Chs) : PyData.eqv (turnP c ch) (turnP c ch) = true := by
  unfold turnP
  simp only [PyData.eqv]
  exact eqvAll_refl (g := PyData.int) (fun i => by simp [PyData.eqv]) _
theorem calD_of {C : Addr} {cy cy2 : List Bool} {ch ch2 : Chs} (h : [partsD cy ch] = [partsD cy2 ch2]) : calD C cy2 ch2 = calD C cy ch := by
  have e0 : [cycD cy, chsD ch] = [cycD cy2, chsD ch2] := Da.tup.inj (List.cons.inj h).1
  have e1 : cycD cy = cycD cy2 := (List.cons.inj e0).1
  have e2 : chsD ch = chsD ch2 := (List.cons.inj (List.cons.inj e0).2).1
  unfold calD
  rw [e1, e2]
section
variable {c : Ly.Ctx} {ρ : List Cell} {te ta tb : TE} {n : Nat} {C : Addr} {cy : List Bool} {ch : Chs}
theorem g_partsA {far : Int} (h0 : ρ[0]? = some .wl) (h : EvD c te ρ (.int far)) (f0 : 0 ≤ far) (hn : n ≤ 900000) : EvG c (tCall (spW c.K SParts RParts) [] E0 (tCons (tVar 0) (tCons te tNil))) ρ n fun d m => ∃ (cy : List Bool) (ch : Chs), d = partsD cy ch ∧ CalOk cy ch ∧ win far ch ∧ m ≤ n + 60 :=
  g_callW (Ra := fun ds k => ds = [.int far] ∧ k = n) h0 ((a_cons h a_nil).g ⟨rfl, rfl⟩) fun ds k ⟨e1, e2⟩ => by
    subst e1 e2
    refine ⟨⟨far, rfl, f0, hn⟩, fun d m ⟨far', cy, ch, z1, z2, O, ha, hb, hm⟩ => ?_⟩
    cases z1
    exact ⟨cy, ch, z2, O, fun q hq => .inr ⟨by have := Asc.lt ha q hq; omega, hb q hq⟩, hm⟩
theorem g_calA (h0 : ρ[0]? = some .wl) (h : EvD c te ρ (partsD cy ch)) (O : CalOk cy ch) (hn : n ≤ 900000) : EvG c (tCall (spW c.K SLCal (RLCal C)) [] E0 (tCons (tVar 0) (tCons te tNil))) ρ n fun d m => d = calD C cy ch ∧ m = n + 2 :=
  g_callW (Ra := fun ds k => ds = [partsD cy ch] ∧ k = n) h0 ((a_cons h a_nil).g ⟨rfl, rfl⟩) fun ds k ⟨e1, e2⟩ => by
    subst e1 e2
    exact ⟨⟨cy, ch, rfl, O, hn⟩, fun d m2 ⟨cy2, ch2, z1, z2, z3⟩ => ⟨z2.trans (calD_of z1), z3⟩⟩
theorem g_farA (h0 : ρ[0]? = some .wl) (hn : n ≤ 900000) : EvG c (tCall (spW c.K SFar RFar) [] E0 (tCons (tVar 0) tNil)) ρ n fun d m => ∃ far : Int, d = .int far ∧ farI far ∧ m = n + 1 :=
  g_callW (Ra := fun ds k => ds = [] ∧ k = n) h0 (a_nil.g ⟨rfl, rfl⟩) fun ds k ⟨e1, e2⟩ => by
    subst e1 e2
    exact ⟨⟨rfl, hn⟩, fun d m h => h⟩
theorem d_turnOf (ha : EvD c ta ρ (calD C cy ch)) (O : CalOk cy ch) : EvD c (tCall (spR c.K (STurn C)) [] E0 (tCons ta tNil)) ρ (turnD cy ch) := d_call (a_cons ha a_nil) ⟨cy, ch, rfl, O, rfl⟩
theorem d_fdif {c2 : List Bool} {h2 : Chs} (ha : EvD c ta ρ (calD C cy ch)) (hb : EvD c tb ρ (calD C c2 h2)) (O : CalOk cy ch) (O2 : CalOk c2 h2) : EvD c (tCall (spR c.K (SFD C)) [] E0 (tCons ta (tCons tb tNil))) ρ (optI (progD (dif cy ch c2 h2) (Nat.lcm cy.length c2.length) (0 :: told ch h2))) := d_call (a_cons ha (a_cons hb a_nil)) ⟨cy, ch, c2, h2, rfl, O, O2, rfl⟩
theorem d_isW6 {s : Int} (ha : EvD c ta ρ (calD C cy ch)) (hb : EvD c tb ρ (.int s)) (O : CalOk cy ch) (s0 : 0 ≤ s) : EvD c (tCall (spR c.K (SIsW C)) [] E0 (tCons ta (tCons tb tNil))) ρ (.bl (works cy ch s)) := d_call (a_cons ha (a_cons hb a_nil)) ⟨cy, ch, s, rfl, O.tr, by have := O.l2; omega, s0, rfl⟩
theorem d_neOpt {o : Option Int} (ha : EvD c ta ρ (optI o)) (hb : EvD c tb ρ (optI o)) : EvD c (tOp rNe ta tb) ρ (.bl false) := by
  cases o with
  | none => exact d_neSs (d := .non) ha hb rfl rfl
  | some i => exact d_neSs (d := .int i) ha hb rfl rfl
end
section
variable {P : Program} {w : World} {K : PySem.W.Frag} {mg : Str → Option Value} {base : Heap} {f f2 fE : Addr} {fd fd2 fdE : FuncData} {C : Addr}
/-! ### _law_right -/
abbrev NR : List Str := ["_law_well_here", "_law_far_here", "_law_parts_here", "_law_made", "_law_one_here", "_law_other", "_law_due", "_law_many", "_law_told", "_law_slot"]
theorem sc_right : FnScope NR ["_law_well_here"] (defScope (top 39)) := ⟨rfl, rfl, rfl, by decide +kernel, rfl, by decide +kernel, by decide +kernel⟩
theorem ok_right (F : FnP K "_law_right" (top 39) f fd) (T : Txt K mg C) (M : Mk K C f2) (Fi : FnI K f2 fd2) (Oi : FnOk P w K mg base CX0 4 f2 fd2 ["self", "cycle", "changes"] (spInit K C)) (E : TxtE K C fE) (Oe : FnOk P w K mg base CX0 1 fE fdE ["self", "other"] (spR K (SEq K C))) (be : Binds K fdE ["self", "other"] [])
    (D_law_draw : Dn P w K mg base 1 "_law_draw" ["_law_well_here", "_law_many"] (spW K Sdraw Rdraw)) (D_law_far : Dn P w K mg base 3 "_law_far" ["_law_well_here"] (spW K SFar RFar)) (D_law_parts : Dn P w K mg base 2 "_law_parts" ["_law_well_here", "_law_far_here"] (spW K SParts RParts)) (D_law_calendar : Dn P w K mg base 6 "_law_calendar" ["_law_well_here", "_law_parts_here"] (spW K SLCal (RLCal C)))
    (D_law_works : Dn P w K mg base 1 "_law_works" ["_law_parts_here", "_law_slot"] (spR K SLWorks)) (D_law_others : Dn P w K mg base 3 "_law_others" ["_law_well_here", "_law_parts_here", "_law_far_here"] (spW K SOth ROth)) (D_law_difference : Dn P w K mg base 2 "_law_difference" ["_law_one_here", "_law_other"] (spR K SLDif)) (D_law_turn : Dn P w K mg base 1 "_law_turn" ["_law_parts_here"] (spR K SLTurn)) (D_law_turn_right : Dn P w K mg base 2 "_law_turn_right" ["_law_parts_here", "_law_told"] (spR K STRight))
    (D_is_work : Dn P w K mg base 4 "is_work" ["calendar", "slot"] (spR K (SIsW C))) (D_first_difference : Dn P w K mg base 3 "first_difference" ["calendar", "other"] (spR K (SFD C))) (D_turn_of : Dn P w K mg base 3 "turn_of" ["calendar"] (spR K (STurn C))) (D_moved : Dn P w K mg base 6 "moved" ["calendar", "many"] (spR K (SMoved C))) : FnOk P w K mg base CX0 7 f fd ["_law_well_here"] (spW K SRight RRight) := by
  have nd := sc_right.nd
  refine F.ok sc_right (fun vs H Q E h => ?_) (fun cdv A outer s H vs Q E0' hr h => ?_)
  · obtain ⟨p, ws, B, ds, n, rfl, _, _, _, rv, ⟨e1, _⟩, _⟩ := h
    subst e1
    show ws.length + 1 = 1
    rw [rv.len]
    rfl
  · refine ⟨_, PSs.nox (pss_cons (ps_set (i := 1) nd rfl (Or.inl rfl) (pe_d D_law_far (hr.mono (by decide)) (pa_cons (pv 0) pa_nil)))
      (pss_cons (ps_set (i := 2) nd rfl (Or.inl rfl) (pe_d D_law_parts (hr.mono (by decide)) (pa_cons (pv 0) (pa_cons (pv 1) pa_nil))))
      (pss_cons (ps_set (i := 3) nd rfl (Or.inl rfl) (pe_d D_law_calendar (hr.mono (by decide)) (pa_cons (pv 0) (pa_cons (pv 2) pa_nil))))
      (pss_cons (ps_if (PW.pt (pw_or (pt_cmpR (op_neD hr.units) (pe_d D_turn_of (hr.mono (by decide)) (pa_cons (pv 3) pa_nil)) (pe_d D_law_turn (hr.mono (by decide)) (pa_cons (pv 2) pa_nil)) (nomark _)) (pw_or1 (pt_not (pt_val (pe_d D_law_turn_right (hr.mono (by decide)) (pa_cons (pv 2) (pa_cons (pe_d D_turn_of (hr.mono (by decide)) (pa_cons (pv 3) pa_nil)) pa_nil)))))))) (pss_one (ps_ret pe_bl)) pss_nil)
      (pss_cons (ps_for PassesOwn.never rfl (pi_list (pe_d D_law_others (hr.mono (by decide)) (pa_cons (pv 0) (pa_cons (pv 2) (pa_cons (pv 1) pa_nil))))) (pg_name (i := 4) nd rfl (Or.inl rfl))
        (pss_cons (ps_par (i := 5) (j := 6) (by rfl) nd rfl rfl (by decide) rfl rfl (pa_cons (pe_makeK (CX := CX0) (E := E0) M Oi (hr.mono (by decide)) (by rfl) T.Calendar (kb_init Fi) pass0 (pa_cons (pe_ix ix_tup (pv 4) pe_int (fun _ _ => rfl)) pa_nil) (pk_cons (pe_ix ix_tup (pv 4) pe_int (fun _ _ => rfl)) pk_nil)) (pa_cons (pe_d D_law_difference (hr.mono (by decide)) (pa_cons (pv 2) (pa_cons (pv 4) pa_nil))) pa_nil)) (by rfl))
        (pss_one (ps_if (PW.pt (pw_or (pt_cmpR op_ne (pe_d D_first_difference (hr.mono (by decide)) (pa_cons (pv 3) (pa_cons (pv 5) pa_nil))) (pv 6) (nomark _)) (pw_or1 (pt_cmpR op_ne (pe_d D_first_difference (hr.mono (by decide)) (pa_cons (pv 5) (pa_cons (pv 3) pa_nil))) (pv 6) (nomark _))))) (pss_one (ps_ret pe_bl)) pss_nil))))
      (pss_cons (ps_for PassesOwn.never rfl (pi_list (pe_lst (pa_cons pe_int (pa_cons pe_int (pa_cons (pe_op op_add (pv 1) (pe_d D_law_draw (hr.mono (by decide)) (pa_cons (pv 0) (pa_cons pe_int pa_nil)))) (pa_cons (pe_op op_add (pe_op op_pow pe_int pe_int) (pe_d D_law_draw (hr.mono (by decide)) (pa_cons (pv 0) (pa_cons pe_int pa_nil)))) pa_nil)))))) (pg_name (i := 7) nd rfl (Or.inl rfl))
        (pss_cons (ps_set (i := 8) nd rfl (Or.inl rfl) (pe_d D_moved (hr.mono (by decide)) (pa_cons (pv 3) (pa_cons (pv 7) pa_nil))))
        (pss_one (ps_for PassesOwn.never rfl (pi_range1 (by rfl) T.range (pa_cons pe_int pa_nil)) (pg_name (i := 9) nd rfl (Or.inl rfl))
          (pss_one (ps_if (pt_cmpR op_ne (pe_d D_is_work (hr.mono (by decide)) (pa_cons (pv 8) (pa_cons (pv 9) pa_nil))) (pe_d D_law_works (hr.mono (by decide)) (pa_cons (pv 2) (pa_cons (pe_op op_add (pv 9) (pv 7)) pa_nil))) (nomark _)) (pss_one (ps_ret pe_bl)) pss_nil))))))
      (pss_one (ps_ret (pe_or (pe_cmpR (op_ownEq Oe E.at_ E.fn be (hr.mono (by decide))) (pe_d D_moved (hr.mono (by decide)) (pa_cons (pv 3) (pa_cons pe_int pa_nil))) (pv 3) (nomark _)) (pe_one (pe_cmpR op_isN (pe_d D_first_difference (hr.mono (by decide)) (pa_cons (pe_d D_moved (hr.mono (by decide)) (pa_cons (pv 3) (pa_cons pe_int pa_nil))) (pa_cons (pv 3) pa_nil))) pe_non (nomark _)))))))))))), ?rd⟩
    refine run_W h (fun ds n ⟨e, _⟩ => by rw [e]; show 1 ≤ 10; decide) fun p B0 H0 ds n ⟨e, hn⟩ => ?_
    subst e
    subst hn
    refine s_seq (s_setG (g_farA rfl (by decide)) fun d m ⟨far, e, hf, em⟩ => ?_)
    subst e
    refine s_seq (s_setG (g_partsA (n := m) rfl (d_var rfl) hf.1 (by omega)) fun d m2 ⟨cy, ch, e, O, hw, em2⟩ => ?_)
    subst e
    refine s_seq (s_setG (g_calA (C := C) (n := m2) rfl (d_var rfl) O (by omega)) fun d m3 ⟨e, em3⟩ => ?_)
    subst e
    have c1 := O.l1
    have c2 := O.l2
    have c3 := O.l3
    refine s_seq (s_if (b := false) ((t_or (t_test (d_neD (d_turnOf (C := C) (d_var rfl) O) (d_call (S := SLTurn) (a_cons (d_var rfl) a_nil) ⟨cy, ch, rfl, O, rfl⟩) (turn_py cy ch) (turn_py cy ch) (turn_shaped cy ch) (turn_shaped cy ch))) fun _ => t_not (t_B (d_call (S := STRight) (a_cons (d_var rfl) (a_cons (d_turnOf (C := C) (d_var rfl) O) a_nil)) ⟨cy, ch, rfl, O, rfl⟩))).eq ?_) (fun z => by cases z) fun _ => s_next ?_)
    · rw [turn_refl]
      rfl
    refine s_seq (s_forP (P := fun N dd k => ∃ L : List (List Bool × Chs), N = L.length ∧ dd = nth (L.map fun p => partsD p.1 p.2) ∧ (∀ p ∈ L, CalOk p.1 p.2 ∧ Pre cy far p) ∧ k ≤ m3 + 70) (wkG_list (R' := fun d k => ∃ L : List (List Bool × Chs), d = .lst (L.map fun p => partsD p.1 p.2) ∧ (∀ p ∈ L, CalOk p.1 p.2 ∧ Pre cy far p) ∧ k ≤ m3 + 70) (g_callW (Ra := fun ds k => ds = [partsD cy ch, .int far] ∧ k = m3) rfl ((a_cons (d_var rfl) (a_cons (d_var rfl) a_nil)).g ⟨rfl, rfl⟩) fun ds k ⟨e1, e2⟩ => ?_) fun d k ⟨L, e, hL, hk⟩ => ⟨L.map fun p => partsD p.1 p.2, e, L, by rw [List.length_map], rfl, hL, hk⟩) fun N dd k ⟨L, e1, e2, hL, hk⟩ => ?_)
    · subst e1 e2
      refine ⟨⟨cy, ch, far, rfl, O, hf.1, hw, by omega⟩, fun d k2 ⟨cy2, ch2, far2, L, z1, z2, z3, z4⟩ => ⟨L, z2, fun q hq => ?_, z4⟩⟩
      have e0 : [partsD cy ch] = [partsD cy2 ch2] := by rw [(List.cons.inj z1).1]
      have ef : far = far2 := Da.int.inj (List.cons.inj (List.cons.inj z1).2).1
      have ec : cy = cy2 := by
        have e1 : [cycD cy, chsD ch] = [cycD cy2, chsD ch2] := Da.tup.inj (List.cons.inj z1).1
        have e2 : cy.map Da.bl = cy2.map Da.bl := Da.tup.inj (List.cons.inj e1).1
        exact (List.map_inj_right fun x y h => Da.bl.inj h).mp e2
      obtain ⟨q1, q2⟩ := z3 q hq
      rw [← ec, ← ef] at q2
      exact ⟨q1, q2⟩
    subst e1 e2
    refine ⟨fun j ρ' n' => n' = k ∧ ∃ x y z, ρ' = [.wl, .da (.int far), .da (partsD cy ch), .da (calD C cy ch), x, y, z, .no, .no, .no], ⟨rfl, .no, .no, .no, rfl⟩, fun j ρ' n' hj ⟨hn, x, y, z, e⟩ => ?_, fun ρ' n' ⟨hn, x, y, z, e⟩ => ?_⟩
    · subst e
      subst hn
      have ej := nth_map (f := fun p : List Bool × Chs => partsD p.1 p.2) (l := L) ([], []) hj
      have hp := hL (L.getD j ([], [])) (by rw [List.getD_eq_getElem?_getD, List.getElem?_eq_getElem hj]; exact List.getElem_mem hj)
      generalize L.getD j ([], []) = q at ej hp
      obtain ⟨O2, pre⟩ := hp
      refine ⟨[.wl, .da (.int far), .da (partsD cy ch), .da (calD C cy ch), .da (partsD q.1 q.2), y, z, .no, .no, .no], by rw [ej]; exact tg_name, ?_⟩
      generalize hD : fstIn (dif cy ch q.1 q.2) (rngI 0 420 ++ told ch q.2) = D
      refine s_seq (s_parG (Ra := fun ds i => ds = [calD C q.1 q.2, optI D] ∧ i = n') ((a_cons (d_make (C := C) (d1 := cycD q.1) (d2 := chsD q.2) (d_ixT (ds := [cycD q.1, chsD q.2]) (d_var rfl) d_int rfl) (d_ixT (ds := [cycD q.1, chsD q.2]) (d_var rfl) d_int rfl) rfl rfl O2) (a_cons (d_call (S := SLDif) (d := optI D) (a_cons (d_var rfl) (a_cons (d_var rfl) a_nil)) ⟨cy, ch, q.1, q.2, rfl, O, O2, by rw [hD]⟩) a_nil)).g ⟨rfl, rfl⟩) fun ds i ⟨e1, e2⟩ => ⟨_, _, e1, ?_⟩)
      subst e2
      have b1 := both O O2 hf hw pre
      have b2 := both2 O O2 hf hw pre
      rw [hD] at b1 b2
      exact s_if (b := false) ((t_or (t_test (d_neOpt (o := D) ((d_fdif (C := C) (d_var rfl) (d_var rfl) O O2).eq (by rw [b1])) (d_var rfl))) fun _ => t_test (d_neOpt (o := D) ((d_fdif (C := C) (d_var rfl) (d_var rfl) O2 O).eq (by rw [b2])) (d_var rfl))).eq rfl) (fun z => by cases z) fun _ => s_next ⟨rfl, _, _, _, rfl⟩
    subst e
    subst hn
    refine s_seq (s_forP (P := fun N dd k => N = 4 ∧ k = n' + 2 ∧ ∀ j, j < 4 → ∃ i : Int, dd j = .int i ∧ 0 ≤ i) (wkG_list (R' := fun d k => ∃ a b : Int, d = .lst [.int 0, .int 1, .int a, .int b] ∧ 0 ≤ a ∧ 0 ≤ b ∧ k = n' + 2) (g_lst (R' := fun ds k => ∃ a b : Int, ds = [.int 0, .int 1, .int a, .int b] ∧ 0 ≤ a ∧ 0 ≤ b ∧ k = n' + 2) ?_ fun ds k ⟨a, b, e, a0, b0, ek⟩ => ⟨by rw [e]; show 4 ≤ 100000; decide, a, b, by rw [e], a0, b0, ek⟩) fun d k ⟨a, b, e, a0, b0, ek⟩ => ⟨_, e, rfl, ek, fun j hj => ?_⟩) fun N dd k ⟨e1, e2, e3⟩ => ?_)
    · refine ga_cons (fun d k => d = .int 0 ∧ k = n') (d_int.g ⟨rfl, rfl⟩) fun d k ⟨e1, em1⟩ => ?_
      subst e1 em1
      refine ga_cons (fun d j => d = .int 1 ∧ j = k) (d_int.g ⟨rfl, rfl⟩) fun d j ⟨e1, em1⟩ => ?_
      subst e1 em1
      have f0 := hf.1
      refine ga_cons (fun d i => ∃ a : Int, d = .int a ∧ 0 ≤ a ∧ i = j + 1) (g_opL (d_var rfl) ((g_draw (m := 40) rfl d_int (by decide) (by decide) (by omega)).imp fun d i ⟨r, e, r0, _, hi⟩ => ⟨r, .int (far + r), e, fun _ => .int _, far + r, rfl, by omega, hi⟩)) fun d i ⟨a, e, a0, hi⟩ => ?_
      subst e
      have p33 : (0 : Int) ≤ 10 ^ (33 : Int).toNat := by decide
      refine ga_cons (R := fun ds m' => ∃ a' b : Int, Da.int 0 :: Da.int 1 :: Da.int a :: ds = [.int 0, .int 1, .int a', .int b] ∧ 0 ≤ a' ∧ 0 ≤ b ∧ m' = j + 2) (fun d m' => ∃ b : Int, d = .int b ∧ 0 ≤ b ∧ m' = i + 1) (g_opL (g := fun i j => V.int (i + j)) (k := 10 ^ (33 : Int).toNat) (d_pow (i := 10) (j := 33) ⟨by decide, by decide, by decide⟩) ((g_draw (n := i) (m := 20) rfl d_int (by decide) (by decide) (by omega)).imp fun d m' ⟨r, e, r0, _, hm⟩ => ⟨r, .int (10 ^ (33 : Int).toNat + r), e, fun _ => .int _, 10 ^ (33 : Int).toNat + r, rfl, by omega, hm⟩)) fun d m' ⟨b, e, b0, hm'⟩ => ?_
      subst e
      exact a_nil.g ⟨a, b, rfl, a0, b0, by omega⟩
    · have : j = 0 ∨ j = 1 ∨ j = 2 ∨ j = 3 := by omega
      rcases this with e | e | e | e
      · subst e
        exact ⟨0, rfl, by decide⟩
      · subst e
        exact ⟨1, rfl, by decide⟩
      · subst e
        exact ⟨a, rfl, a0⟩
      · subst e
        exact ⟨b, rfl, b0⟩
    subst e1
    refine ⟨fun j ρ' n2 => n2 = k ∧ ∃ x1 x2 x3 x4 x5 x6, ρ' = [.wl, .da (.int far), .da (partsD cy ch), .da (calD C cy ch), x1, x2, x3, x4, x5, x6], ⟨rfl, x, y, z, .no, .no, .no, rfl⟩, fun j ρ' n2 hj ⟨hn, x1, x2, x3, x4, x5, x6, e⟩ => ?_, fun ρ' n2 ⟨hn, x1, x2, x3, x4, x5, x6, e⟩ => ?_⟩
    · subst e
      subst hn
      obtain ⟨many, ed, many0⟩ := e3 j hj
      refine ⟨[.wl, .da (.int far), .da (partsD cy ch), .da (calD C cy ch), x1, x2, x3, .da (.int many), x5, x6], by rw [ed]; exact tg_name, ?_⟩
      refine s_seq (s_set (d_moved (C := C) (d_var rfl) (d_var rfl) O many0) ?_)
      have O2 := mv_ok O many
      refine s_for (N := 45) (dd := Ly.upTo 0) (fun k ρ' n3 => n3 = n2 ∧ ∃ x, ρ' = [.wl, .da (.int far), .da (partsD cy ch), .da (calD C cy ch), x1, x2, x3, .da (.int many), .da (calD C (mvC cy many) (mvCh ch many)), x]) (wk_range (k := 45) (a_cons d_int a_nil) (by decide)) ⟨rfl, x6, rfl⟩ (fun k ρ' n3 hk ⟨hn, x, e⟩ => ?_) fun ρ' n3 ⟨hn, x, e⟩ => ?_
      · subst e
        subst hn
        refine ⟨[.wl, .da (.int far), .da (partsD cy ch), .da (calD C cy ch), x1, x2, x3, .da (.int many), .da (calD C (mvC cy many) (mvCh ch many)), .da (.int (0 + (k : Int)))], tg_name, ?_⟩
        refine s_if (b := false) ((t_test (d_neB (d_isW6 (C := C) (d_var rfl) (d_var rfl) O2 (by omega)) (d_lw (d_var rfl) (d_int2 (d_var rfl) (d_var rfl)) O))).eq ?_) (fun z => by cases z) fun _ => s_next ⟨rfl, _, rfl⟩
        rw [moved_works cy O.asc (by omega) (by omega : (0 : Int) ≤ 0 + (k : Int))]
        simp
      · subst e
        subst hn
        exact ⟨rfl, _, _, _, _, _, _, rfl⟩
    · subst e
      subst hn
      obtain ⟨v1, v2⟩ := moved_0 (c := cy) O.asc
      refine s_ret ((d_or (b := true) (b' := true) ((d_ownEqO (S := SEq K C) T.ty (d_moved (C := C) (d_var rfl) d_int O (by decide)) (d_var rfl) (.inl ⟨_, _, cy, ch, rfl, rfl⟩)).eq ?_) fun z => by cases z).eq rfl) rfl
      rw [v1, v2, eqCB_refl]
end

end Ca


set_option Elab.async false
set_option autoImplicit false
set_option linter.all false
set_option maxRecDepth 100000
set_option maxHeartbeats 0
namespace Ca
open PySem PySem.Spec PyProof.Rows L2 Cmb Ly Cal He
/-! ### the text -/
/-- what is asked of the class beside the facts that the table knows -/
def clsB (K : PySem.W.Frag) (x : Str) : Bool := decide (PySem.W.kitOne K (.ref (ga K x)) (.ref (ga K x)) = some true) && (eqO (PySem.W.findIn K (.ref (ga K x)) "__class__") (some (some (.builtin "object.__class__"))) && (eqO (PySem.W.specialIn K (.builtin "object.__class__") "__get__") (some (some (.builtin "getset_descriptor.__get__"))) && (decide (PySem.W.takesIn K (.builtin "object.__class__") = some true) && decide (PySem.W.mroIn K (ga K x) (.type "object") = some true))))

/-- the value that a keyword-only parameter has if it is left out, an object -/
def kwAt (p : Str × Option Str) (x : Str) (K : PySem.W.Frag) : Addr := match K.lookup (He.fAd K p) with
  | some ⟨_, _, .func fd, _⟩ => (match fd.kwdefaults with
    | .ref D => (match PySem.W.nsIn K D x with
      | some (some (.ref a)) => a
      | _ => 0)
    | _ => 0)
  | _ => 0
def nilT (K : PySem.W.Frag) (a : Addr) : Bool := match K.lookup a with
  | some ⟨.type c, _, .seq its _, _⟩ => decide (c = "tuple") && (decide (its.size ≤ sizeLine) && He.relAll [] its.toList)
  | _ => false
theorem nilT_ok {K : PySem.W.Frag} {a : Addr} (h : nilT K a = true) (H : Hp) : SqT K H a [] := by
  unfold nilT at h
  cases q : K.lookup a with
  | none =>
    rw [q] at h
    cases h
  | some o =>
    obtain ⟨oc, od, dt, osl⟩ := o
    rw [q] at h
    cases oc with
    | type c =>
      cases dt with
      | seq its n =>
        obtain ⟨h1, h2⟩ := He.ba (show (decide (c = "tuple") && (decide (its.size ≤ sizeLine) && He.relAll [] its.toList)) = true from h)
        obtain ⟨h3, h4⟩ := He.ba h2
        exact .inr ⟨_, its, n, q, congrArg Value.type (of_decide_eq_true h1), rfl, of_decide_eq_true h3, He.relAll_ok h4⟩
      | _ => cases h
    | _ => cases dt <;> cases h
abbrev pI : Str × Option Str := ("Calendar", some "__init__")
def eqB (K : PySem.W.Frag) : Bool := ownNeB K (ga K "Calendar") (ma K (ga K "Calendar") "__eq__") && (PySem.W.notFirst K (ga K "Calendar") (.type "tuple") && (PySem.W.notFirst K (ga K "Calendar") (.type "NoneType") && (decide (PySem.W.kitOne K (.type "tuple") (.ref (ga K "Calendar")) = some false) && (decide (PySem.W.kitOne K (.type "NoneType") (.ref (ga K "Calendar")) = some false) && nilT K (kwAt pI "changes" K)))))
def exB (K : PySem.W.Frag) : Bool := clsB K "Calendar" && (eqB K && eqO (PySem.W.nsIn K mainGlobals "lcm") (some (some (.builtin "math.lcm"))))
def dInit : DefD := ⟨("Calendar", some "__init__"), "__init__", "Calendar.__init__", defArgs (inClass (top 14) 0), defBody (inClass (top 14) 0), defScope (inClass (top 14) 0), [], []⟩
def dInit2 : DefD := ⟨("Calendar", some "__init__"), "__init__", "Calendar.__init__", defArgs (inClass (top 14) 0), defBody (inClass (top 14) 0), defScope (inClass (top 14) 0), [], [("changes", .adr (kwAt pI "changes"))]⟩
def dEq : DefD := ⟨("Calendar", some "__eq__"), "__eq__", "Calendar.__eq__", defArgs (inClass (top 14) 1), defBody (inClass (top 14) 1), defScope (inClass (top 14) 1), [], []⟩
def df_is_whole : DefD := ⟨("is_whole", none), "is_whole", "is_whole", defArgs (top 6), defBody (top 6), defScope (top 6), [], []⟩
def df_is_natural : DefD := ⟨("is_natural", none), "is_natural", "is_natural", defArgs (top 7), defBody (top 7), defScope (top 7), [], []⟩
def df_is_row : DefD := ⟨("is_row", none), "is_row", "is_row", defArgs (top 8), defBody (top 8), defScope (top 8), [], []⟩
def df_need_number : DefD := ⟨("need_number", none), "need_number", "need_number", defArgs (top 10), defBody (top 10), defScope (top 10), [], []⟩
def df_cycle_fault : DefD := ⟨("cycle_fault", none), "cycle_fault", "cycle_fault", defArgs (top 15), defBody (top 15), defScope (top 15), [], []⟩
def df_is_change : DefD := ⟨("is_change", none), "is_change", "is_change", defArgs (top 16), defBody (top 16), defScope (top 16), [], []⟩
def df_changes_fault : DefD := ⟨("changes_fault", none), "changes_fault", "changes_fault", defArgs (top 17), defBody (top 17), defScope (top 17), [], []⟩
def df_need_calendar : DefD := ⟨("need_calendar", none), "need_calendar", "need_calendar", defArgs (top 18), defBody (top 18), defScope (top 18), [], []⟩
def df_by_cycle : DefD := ⟨("by_cycle", none), "by_cycle", "by_cycle", defArgs (top 19), defBody (top 19), defScope (top 19), [], []⟩
def df_gain : DefD := ⟨("gain", none), "gain", "gain", defArgs (top 20), defBody (top 20), defScope (top 20), [], []⟩
def df_works_at : DefD := ⟨("works_at", none), "works_at", "works_at", defArgs (top 21), defBody (top 21), defScope (top 21), [], []⟩
def df_least_period : DefD := ⟨("least_period", none), "least_period", "least_period", defArgs (top 22), defBody (top 22), defScope (top 22), [], []⟩
def df_is_work : DefD := ⟨("is_work", none), "is_work", "is_work", defArgs (top 23), defBody (top 23), defScope (top 23), [], []⟩
def df_first_difference : DefD := ⟨("first_difference", none), "first_difference", "first_difference", defArgs (top 24), defBody (top 24), defScope (top 24), [], []⟩
def df_turn_of : DefD := ⟨("turn_of", none), "turn_of", "turn_of", defArgs (top 25), defBody (top 25), defScope (top 25), [], []⟩
def df_moved : DefD := ⟨("moved", none), "moved", "moved", defArgs (top 26), defBody (top 26), defScope (top 26), [], []⟩
def df__law_well : DefD := ⟨("_law_well", none), "_law_well", "_law_well", defArgs (top 28), defBody (top 28), defScope (top 28), [], []⟩
def df__law_draw : DefD := ⟨("_law_draw", none), "_law_draw", "_law_draw", defArgs (top 29), defBody (top 29), defScope (top 29), [], []⟩
def df__law_one : DefD := ⟨("_law_one", none), "_law_one", "_law_one", defArgs (top 30), defBody (top 30), defScope (top 30), [], []⟩
def df__law_parts : DefD := ⟨("_law_parts", none), "_law_parts", "_law_parts", defArgs (top 31), defBody (top 31), defScope (top 31), [], []⟩
def df__law_works : DefD := ⟨("_law_works", none), "_law_works", "_law_works", defArgs (top 32), defBody (top 32), defScope (top 32), [], []⟩
def df__law_calendar : DefD := ⟨("_law_calendar", none), "_law_calendar", "_law_calendar", defArgs (top 33), defBody (top 33), defScope (top 33), [], []⟩
def df__law_far : DefD := ⟨("_law_far", none), "_law_far", "_law_far", defArgs (top 34), defBody (top 34), defScope (top 34), [], []⟩
def df__law_others : DefD := ⟨("_law_others", none), "_law_others", "_law_others", defArgs (top 35), defBody (top 35), defScope (top 35), [], []⟩
def df__law_difference : DefD := ⟨("_law_difference", none), "_law_difference", "_law_difference", defArgs (top 36), defBody (top 36), defScope (top 36), [], []⟩
def df__law_turn : DefD := ⟨("_law_turn", none), "_law_turn", "_law_turn", defArgs (top 37), defBody (top 37), defScope (top 37), [], []⟩
def df__law_turn_right : DefD := ⟨("_law_turn_right", none), "_law_turn_right", "_law_turn_right", defArgs (top 38), defBody (top 38), defScope (top 38), [], []⟩
def df__law_right : DefD := ⟨("_law_right", none), "_law_right", "_law_right", defArgs (top 39), defBody (top 39), defScope (top 39), [], []⟩
def df_law : DefD := ⟨("law", none), "law", "law", defArgs (top 40), defBody (top 40), defScope (top 40), [], []⟩
def fn : List DefD := [dInit, df_is_whole, df_is_natural, df_is_row, df_need_number, df_cycle_fault, df_is_change, df_changes_fault, df_need_calendar, df_by_cycle, df_gain, df_works_at, df_least_period, df_is_work, df_first_difference, df_turn_of, df_moved, df__law_well, df__law_draw, df__law_one, df__law_parts, df__law_works, df__law_calendar, df__law_far, df__law_others, df__law_difference, df__law_turn, df__law_turn_right, df__law_right, df_law, dInit2, dEq]
def fa1 : List Fa := [.glo "Calendar", .cls "Calendar", .noat "Calendar" "cycle", .noat "Calendar" "changes", .mkr "Calendar", .meth "Calendar" "__eq__", .int "LONGEST_CYCLE" 14, .int "MOST_CHANGES" 10, .free "isinstance", .free "len", .free "range", .free "enumerate", .free "int", .free "list", .free "tuple", .free "any", .free "sum", .free "bool", .free "min", .free "max", .free "sorted", .glo "is_whole", .glo "is_natural", .glo "is_row", .glo "need_number", .glo "cycle_fault", .glo "is_change", .glo "changes_fault", .glo "need_calendar", .glo "by_cycle"]
def fa2 : List Fa := [.glo "gain", .glo "works_at", .glo "least_period", .glo "is_work", .glo "first_difference", .glo "turn_of", .glo "moved", .glo "_law_well", .glo "_law_draw", .glo "_law_one", .glo "_law_parts", .glo "_law_works", .glo "_law_calendar", .glo "_law_far", .glo "_law_others", .glo "_law_difference", .glo "_law_turn", .glo "_law_turn_right", .glo "_law_right", .glo "law"]
def fa : List Fa := fa1 ++ fa2
abbrev R : PySem.W.OpenRow := PySem.W.OpenLaw.row PySem.Challenge.rw_crewlags_k60_whole_calendars_that_never
abbrev hk : PySem.W.Hook := He.hookX 5 fa fn [] [] exB
def ob (s : PySem.W.SharedT) : He.AlX := He.obsX 5 fa fn [] [] exB (HandSHeadRun.getT s)
theorem ob_eq (s : PySem.W.SharedT) : ob s = hk.obs s.abs := He.obsX_eq (HandSHeadRun.getT_eq s)
def loose : List Str := (["lcm", "CrewError", "NoNumber", "NoCalendar", "is_whole", "is_natural", "is_row", "need_number", "LONGEST_CYCLE", "MOST_CHANGES", "Calendar", "cycle_fault"] : List Str) ++ (["is_change", "changes_fault", "need_calendar", "by_cycle", "gain", "works_at", "least_period", "is_work", "first_difference", "turn_of", "moved", "_law_well"] : List Str) ++ (["_law_draw", "_law_one", "_law_parts", "_law_works", "_law_calendar", "_law_far", "_law_others", "_law_difference", "_law_turn", "_law_turn_right", "_law_right"] : List Str)
theorem ranT (w : World) : Ib.IbT R.prog w := Ib.ran0 w
theorem run (w : World) : Ib.IbRun R (PySem.W.view R.prog [40]) hk ob 9000 loose w := by
  intro os
  kernel_rfl
theorem facts {P : Program} {w : World} {K : PySem.W.Frag} {h : Heap} {mg : Str → Option Value} {f : Addr} (X : K.In h) (G : h.Ns mainGlobals mg) (hfa : mg ("law" : Str) = some (.ref f)) (c : He.SaysX fa fn [] [] exB w h K) :
    ∃ fd : FuncData, (∀ (s : Shared) (v : Value), BindsTo s fd ⟨[v], []⟩ [("_law_script", v)]) ∧ ∀ base : Heap, K.In base → base.Ns mainGlobals mg → FnOk P w K mg base CX0 8 f fd ["_law_script"] (spLaw K) := by
  have D := c.t.d
  obtain ⟨xc, xe⟩ := ba (show (clsB K "Calendar" && (eqB K && _)) = true from c.more)
  obtain ⟨xe, xl⟩ := ba xe
  obtain ⟨x1, x⟩ := ba (show (decide (PySem.W.kitOne K (.ref (ga K "Calendar")) (.ref (ga K "Calendar")) = some true) && _) = true from xc)
  obtain ⟨x2, x⟩ := ba x
  obtain ⟨x3, x⟩ := ba x
  obtain ⟨x4, x5⟩ := ba x
  have x1 := of_decide_eq_true x1
  have x2 := eqO_ok x2
  have x3 := eqO_ok x3
  have x4 := of_decide_eq_true x4
  have x5 := of_decide_eq_true x5
  have cl := cls_ok (D.facts (f := .cls "Calendar") (List.mem_of_getElem? (i := 1) rfl))
  have T : Txt K mg (ga K "Calendar") := ⟨free_ok X G (D.facts (f := .free "isinstance") (List.mem_of_getElem? (i := 8) rfl)), free_ok X G (D.facts (f := .free "len") (List.mem_of_getElem? (i := 9) rfl)), free_ok X G (D.facts (f := .free "range") (List.mem_of_getElem? (i := 10) rfl)), free_ok X G (D.facts (f := .free "enumerate") (List.mem_of_getElem? (i := 11) rfl)), free_ok X G (D.facts (f := .free "int") (List.mem_of_getElem? (i := 12) rfl)), free_ok X G (D.facts (f := .free "list") (List.mem_of_getElem? (i := 13) rfl)), free_ok X G (D.facts (f := .free "tuple") (List.mem_of_getElem? (i := 14) rfl)), free_ok X G (D.facts (f := .free "any") (List.mem_of_getElem? (i := 15) rfl)), free_ok X G (D.facts (f := .free "sum") (List.mem_of_getElem? (i := 16) rfl)), free_ok X G (D.facts (f := .free "bool") (List.mem_of_getElem? (i := 17) rfl)), int_ok X G (D.facts (f := .int "LONGEST_CYCLE" 14) (List.mem_of_getElem? (i := 6) rfl)), int_ok X G (D.facts (f := .int "MOST_CHANGES" 10) (List.mem_of_getElem? (i := 7) rfl)), glo_ok X G (D.facts (f := .glo "Calendar") (List.mem_of_getElem? (i := 0) rfl)), cl, noat_ok (D.facts (f := .noat "Calendar" "cycle") (List.mem_of_getElem? (i := 2) rfl)), noat_ok (D.facts (f := .noat "Calendar" "changes") (List.mem_of_getElem? (i := 3) rfl)), (fun H a dx fs e => .base (.ins e cl x2 x3 x4 x5)), x1⟩
  have g_lcm := PySem.W.mg_of X G (eqO_ok xl)
  have g_min := free_ok X G (D.facts (f := .free "min") (List.mem_of_getElem? (i := 18) rfl))
  have g_max := free_ok X G (D.facts (f := .free "max") (List.mem_of_getElem? (i := 19) rfl))
  have g_sorted := free_ok X G (D.facts (f := .free "sorted") (List.mem_of_getElem? (i := 20) rfl))
  have M := mkr_ok (D.facts (f := .mkr "Calendar") (List.mem_of_getElem? (i := 4) rfl))
  obtain ⟨fdI, FI⟩ := D.defs (d := dInit) (List.mem_of_getElem? (i := 0) rfl)
  have FI : FnI K (ma K (ga K "Calendar") "__init__") fdI := FI
  obtain ⟨y1, y⟩ := ba (show (ownNeB K (ga K "Calendar") (ma K (ga K "Calendar") "__eq__") && _) = true from xe)
  obtain ⟨y2, y⟩ := ba y
  obtain ⟨y3, y⟩ := ba y
  obtain ⟨y4, y⟩ := ba y
  obtain ⟨y5, y6⟩ := ba y
  have hT := nilT_ok y6
  obtain ⟨z1, z2, z3⟩ := meth_ok (D.facts (f := .meth "Calendar" "__eq__") (List.mem_of_getElem? (i := 5) rfl))
  have E : TxtE K (ga K "Calendar") (ma K (ga K "Calendar") "__eq__") := ⟨z1, z2, ownNeB_ok y1, y2, y3, of_decide_eq_true y4, of_decide_eq_true y5⟩
  obtain ⟨fdI2, FI2⟩ := D.defs (d := dInit2) (List.mem_of_getElem? (i := 30) rfl)
  have FI2 : FunD K "__init__" "Calendar.__init__" (defArgs (inClass (top 14) 0)) (defBody (inClass (top 14) 0)) (defScope (inClass (top 14) 0)) [] [("changes", .ref (kwAt pI "changes" K))] (ma K (ga K "Calendar") "__init__") fdI2 := FI2
  obtain ⟨mv, kb0⟩ := kb_init0 FI2
  obtain ⟨fdE, FE⟩ := D.defs (d := dEq) (List.mem_of_getElem? (i := 31) rfl)
  have FE : FnEq K (ma K (ga K "Calendar") "__eq__") fdE := FE
  have be : Binds K fdE ["self", "other"] [] := FE.bindsN fun _ _ _ _ _ _ us hl => match us, hl with | [_, _], _ => rfl
  have FI : FnI K (ma K (ga K "Calendar") "__init__") fdI2 := ⟨by obtain ⟨a1, a2, a3, a4, a5, a6, a7, a8, a9, a10, b1, b2, b3, b4, b5⟩ := FI2.ex; exact ⟨a1, a2, a3, a4, a5, a6, a7, a8, a9, a10, b1, b2, b3, b4, .inl rfl⟩, FI2.kp⟩
  obtain ⟨fd_is_whole, F_is_whole⟩ := D.defs (d := df_is_whole) (List.mem_of_getElem? (i := 1) rfl)
  have F_is_whole : FnP K "is_whole" (top 6) (ga K "is_whole") fd_is_whole := F_is_whole
  have g_is_whole := glo_ok X G (D.facts (f := .glo "is_whole") (List.mem_of_getElem? (i := 21) rfl))
  obtain ⟨fd_is_natural, F_is_natural⟩ := D.defs (d := df_is_natural) (List.mem_of_getElem? (i := 2) rfl)
  have F_is_natural : FnP K "is_natural" (top 7) (ga K "is_natural") fd_is_natural := F_is_natural
  have g_is_natural := glo_ok X G (D.facts (f := .glo "is_natural") (List.mem_of_getElem? (i := 22) rfl))
  obtain ⟨fd_is_row, F_is_row⟩ := D.defs (d := df_is_row) (List.mem_of_getElem? (i := 3) rfl)
  have F_is_row : FnP K "is_row" (top 8) (ga K "is_row") fd_is_row := F_is_row
  have g_is_row := glo_ok X G (D.facts (f := .glo "is_row") (List.mem_of_getElem? (i := 23) rfl))
  obtain ⟨fd_need_number, F_need_number⟩ := D.defs (d := df_need_number) (List.mem_of_getElem? (i := 4) rfl)
  have F_need_number : FnP K "need_number" (top 10) (ga K "need_number") fd_need_number := F_need_number
  have g_need_number := glo_ok X G (D.facts (f := .glo "need_number") (List.mem_of_getElem? (i := 24) rfl))
  obtain ⟨fd_cycle_fault, F_cycle_fault⟩ := D.defs (d := df_cycle_fault) (List.mem_of_getElem? (i := 5) rfl)
  have F_cycle_fault : FnP K "cycle_fault" (top 15) (ga K "cycle_fault") fd_cycle_fault := F_cycle_fault
  have g_cycle_fault := glo_ok X G (D.facts (f := .glo "cycle_fault") (List.mem_of_getElem? (i := 25) rfl))
  obtain ⟨fd_is_change, F_is_change⟩ := D.defs (d := df_is_change) (List.mem_of_getElem? (i := 6) rfl)
  have F_is_change : FnP K "is_change" (top 16) (ga K "is_change") fd_is_change := F_is_change
  have g_is_change := glo_ok X G (D.facts (f := .glo "is_change") (List.mem_of_getElem? (i := 26) rfl))
  obtain ⟨fd_changes_fault, F_changes_fault⟩ := D.defs (d := df_changes_fault) (List.mem_of_getElem? (i := 7) rfl)
  have F_changes_fault : FnP K "changes_fault" (top 17) (ga K "changes_fault") fd_changes_fault := F_changes_fault
  have g_changes_fault := glo_ok X G (D.facts (f := .glo "changes_fault") (List.mem_of_getElem? (i := 27) rfl))
  obtain ⟨fd_need_calendar, F_need_calendar⟩ := D.defs (d := df_need_calendar) (List.mem_of_getElem? (i := 8) rfl)
  have F_need_calendar : FnP K "need_calendar" (top 18) (ga K "need_calendar") fd_need_calendar := F_need_calendar
  have g_need_calendar := glo_ok X G (D.facts (f := .glo "need_calendar") (List.mem_of_getElem? (i := 28) rfl))
  obtain ⟨fd_by_cycle, F_by_cycle⟩ := D.defs (d := df_by_cycle) (List.mem_of_getElem? (i := 9) rfl)
  have F_by_cycle : FnP K "by_cycle" (top 19) (ga K "by_cycle") fd_by_cycle := F_by_cycle
  have g_by_cycle := glo_ok X G (D.facts (f := .glo "by_cycle") (List.mem_of_getElem? (i := 29) rfl))
  obtain ⟨fd_gain, F_gain⟩ := D.defs (d := df_gain) (List.mem_of_getElem? (i := 10) rfl)
  have F_gain : FnP K "gain" (top 20) (ga K "gain") fd_gain := F_gain
  have g_gain := glo_ok X G (D.facts (f := .glo "gain") (List.mem_of_getElem? (i := 30) rfl))
  obtain ⟨fd_works_at, F_works_at⟩ := D.defs (d := df_works_at) (List.mem_of_getElem? (i := 11) rfl)
  have F_works_at : FnP K "works_at" (top 21) (ga K "works_at") fd_works_at := F_works_at
  have g_works_at := glo_ok X G (D.facts (f := .glo "works_at") (List.mem_of_getElem? (i := 31) rfl))
  obtain ⟨fd_least_period, F_least_period⟩ := D.defs (d := df_least_period) (List.mem_of_getElem? (i := 12) rfl)
  have F_least_period : FnP K "least_period" (top 22) (ga K "least_period") fd_least_period := F_least_period
  have g_least_period := glo_ok X G (D.facts (f := .glo "least_period") (List.mem_of_getElem? (i := 32) rfl))
  obtain ⟨fd_is_work, F_is_work⟩ := D.defs (d := df_is_work) (List.mem_of_getElem? (i := 13) rfl)
  have F_is_work : FnP K "is_work" (top 23) (ga K "is_work") fd_is_work := F_is_work
  have g_is_work := glo_ok X G (D.facts (f := .glo "is_work") (List.mem_of_getElem? (i := 33) rfl))
  obtain ⟨fd_first_difference, F_first_difference⟩ := D.defs (d := df_first_difference) (List.mem_of_getElem? (i := 14) rfl)
  have F_first_difference : FnP K "first_difference" (top 24) (ga K "first_difference") fd_first_difference := F_first_difference
  have g_first_difference := glo_ok X G (D.facts (f := .glo "first_difference") (List.mem_of_getElem? (i := 34) rfl))
  obtain ⟨fd_turn_of, F_turn_of⟩ := D.defs (d := df_turn_of) (List.mem_of_getElem? (i := 15) rfl)
  have F_turn_of : FnP K "turn_of" (top 25) (ga K "turn_of") fd_turn_of := F_turn_of
  have g_turn_of := glo_ok X G (D.facts (f := .glo "turn_of") (List.mem_of_getElem? (i := 35) rfl))
  obtain ⟨fd_moved, F_moved⟩ := D.defs (d := df_moved) (List.mem_of_getElem? (i := 16) rfl)
  have F_moved : FnP K "moved" (top 26) (ga K "moved") fd_moved := F_moved
  have g_moved := glo_ok X G (D.facts (f := .glo "moved") (List.mem_of_getElem? (i := 36) rfl))
  obtain ⟨fd__law_well, F__law_well⟩ := D.defs (d := df__law_well) (List.mem_of_getElem? (i := 17) rfl)
  have F__law_well : FnP K "_law_well" (top 28) (ga K "_law_well") fd__law_well := F__law_well
  have g__law_well := glo_ok X G (D.facts (f := .glo "_law_well") (List.mem_of_getElem? (i := 37) rfl))
  obtain ⟨fd__law_draw, F__law_draw⟩ := D.defs (d := df__law_draw) (List.mem_of_getElem? (i := 18) rfl)
  have F__law_draw : FnP K "_law_draw" (top 29) (ga K "_law_draw") fd__law_draw := F__law_draw
  have g__law_draw := glo_ok X G (D.facts (f := .glo "_law_draw") (List.mem_of_getElem? (i := 38) rfl))
  obtain ⟨fd__law_one, F__law_one⟩ := D.defs (d := df__law_one) (List.mem_of_getElem? (i := 19) rfl)
  have F__law_one : FnP K "_law_one" (top 30) (ga K "_law_one") fd__law_one := F__law_one
  have g__law_one := glo_ok X G (D.facts (f := .glo "_law_one") (List.mem_of_getElem? (i := 39) rfl))
  obtain ⟨fd__law_parts, F__law_parts⟩ := D.defs (d := df__law_parts) (List.mem_of_getElem? (i := 20) rfl)
  have F__law_parts : FnP K "_law_parts" (top 31) (ga K "_law_parts") fd__law_parts := F__law_parts
  have g__law_parts := glo_ok X G (D.facts (f := .glo "_law_parts") (List.mem_of_getElem? (i := 40) rfl))
  obtain ⟨fd__law_works, F__law_works⟩ := D.defs (d := df__law_works) (List.mem_of_getElem? (i := 21) rfl)
  have F__law_works : FnP K "_law_works" (top 32) (ga K "_law_works") fd__law_works := F__law_works
  have g__law_works := glo_ok X G (D.facts (f := .glo "_law_works") (List.mem_of_getElem? (i := 41) rfl))
  obtain ⟨fd__law_calendar, F__law_calendar⟩ := D.defs (d := df__law_calendar) (List.mem_of_getElem? (i := 22) rfl)
  have F__law_calendar : FnP K "_law_calendar" (top 33) (ga K "_law_calendar") fd__law_calendar := F__law_calendar
  have g__law_calendar := glo_ok X G (D.facts (f := .glo "_law_calendar") (List.mem_of_getElem? (i := 42) rfl))
  obtain ⟨fd__law_far, F__law_far⟩ := D.defs (d := df__law_far) (List.mem_of_getElem? (i := 23) rfl)
  have F__law_far : FnP K "_law_far" (top 34) (ga K "_law_far") fd__law_far := F__law_far
  have g__law_far := glo_ok X G (D.facts (f := .glo "_law_far") (List.mem_of_getElem? (i := 43) rfl))
  obtain ⟨fd__law_others, F__law_others⟩ := D.defs (d := df__law_others) (List.mem_of_getElem? (i := 24) rfl)
  have F__law_others : FnP K "_law_others" (top 35) (ga K "_law_others") fd__law_others := F__law_others
  have g__law_others := glo_ok X G (D.facts (f := .glo "_law_others") (List.mem_of_getElem? (i := 44) rfl))
  obtain ⟨fd__law_difference, F__law_difference⟩ := D.defs (d := df__law_difference) (List.mem_of_getElem? (i := 25) rfl)
  have F__law_difference : FnP K "_law_difference" (top 36) (ga K "_law_difference") fd__law_difference := F__law_difference
  have g__law_difference := glo_ok X G (D.facts (f := .glo "_law_difference") (List.mem_of_getElem? (i := 45) rfl))
  obtain ⟨fd__law_turn, F__law_turn⟩ := D.defs (d := df__law_turn) (List.mem_of_getElem? (i := 26) rfl)
  have F__law_turn : FnP K "_law_turn" (top 37) (ga K "_law_turn") fd__law_turn := F__law_turn
  have g__law_turn := glo_ok X G (D.facts (f := .glo "_law_turn") (List.mem_of_getElem? (i := 46) rfl))
  obtain ⟨fd__law_turn_right, F__law_turn_right⟩ := D.defs (d := df__law_turn_right) (List.mem_of_getElem? (i := 27) rfl)
  have F__law_turn_right : FnP K "_law_turn_right" (top 38) (ga K "_law_turn_right") fd__law_turn_right := F__law_turn_right
  have g__law_turn_right := glo_ok X G (D.facts (f := .glo "_law_turn_right") (List.mem_of_getElem? (i := 47) rfl))
  obtain ⟨fd__law_right, F__law_right⟩ := D.defs (d := df__law_right) (List.mem_of_getElem? (i := 28) rfl)
  have F__law_right : FnP K "_law_right" (top 39) (ga K "_law_right") fd__law_right := F__law_right
  have g__law_right := glo_ok X G (D.facts (f := .glo "_law_right") (List.mem_of_getElem? (i := 48) rfl))
  obtain ⟨fd_law, F_law⟩ := D.defs (d := df_law) (List.mem_of_getElem? (i := 29) rfl)
  have F_law : FnP K "law" (top 40) (ga K "law") fd_law := F_law
  have g_law := glo_ok X G (D.facts (f := .glo "law") (List.mem_of_getElem? (i := 49) rfl))
  have e := hfa.symm.trans g_law
  cases e
  have b := FunD.bindsA (ps := ["_law_script"]) F_law fun _ _ _ _ _ _ us hl => match us, hl with | [_], _ => rfl
  refine ⟨fd_law, fun s v => b s [v] rfl, fun base _ _ => ?_⟩
  have D_law_well : Dn P w K mg base 1 "_law_well" ["_law_cell"] (spWell) := dn_mk F__law_well g__law_well (fun _ _ _ _ _ _ us hl => match us, hl with | [_], _ => rfl) (ok_well F__law_well T)
  have D_law_draw : Dn P w K mg base 1 "_law_draw" ["_law_well_here", "_law_many"] (spW K Sdraw Rdraw) := dn_mk F__law_draw g__law_draw (fun _ _ _ _ _ _ us hl => match us, hl with | [_, _], _ => rfl) (ok_draw F__law_draw T)
  have D_law_one : Dn P w K mg base 2 "_law_one" ["_law_well_here", "_law_some"] (spW K Sone Rone) := dn_mk F__law_one g__law_one (fun _ _ _ _ _ _ us hl => match us, hl with | [_, _], _ => rfl) (ok_one F__law_one T D_law_draw)
  have D_law_far : Dn P w K mg base 3 "_law_far" ["_law_well_here"] (spW K SFar RFar) := dn_mk F__law_far g__law_far (fun _ _ _ _ _ _ us hl => match us, hl with | [_], _ => rfl) (ok_far F__law_far T D_law_one)
  have D_law_parts : Dn P w K mg base 2 "_law_parts" ["_law_well_here", "_law_far_here"] (spW K SParts RParts) := dn_mk F__law_parts g__law_parts (fun _ _ _ _ _ _ us hl => match us, hl with | [_, _], _ => rfl) (ok_parts F__law_parts T D_law_draw)
  have D_is_row : Dn P w K mg base 1 "is_row" ["value"] (spR K SRow) := dn_mk F_is_row g_is_row (fun _ _ _ _ _ _ us hl => match us, hl with | [_], _ => rfl) (ok_is_row F_is_row T)
  have D_cycle_fault : Dn P w K mg base 2 "cycle_fault" ["cycle"] (spR K SCf) := dn_mk F_cycle_fault g_cycle_fault (fun _ _ _ _ _ _ us hl => match us, hl with | [_], _ => rfl) (ok_cycle_fault F_cycle_fault T D_is_row)
  have D_is_whole : Dn P w K mg base 1 "is_whole" ["value"] (spR K SWhole) := dn_mk F_is_whole g_is_whole (fun _ _ _ _ _ _ us hl => match us, hl with | [_], _ => rfl) (ok_is_whole F_is_whole T)
  have D_is_change : Dn P w K mg base 2 "is_change" ["value", "last"] (spR K SChange) := dn_mk F_is_change g_is_change (fun _ _ _ _ _ _ us hl => match us, hl with | [_, _], _ => rfl) (ok_is_change F_is_change T D_is_whole)
  have D_changes_fault : Dn P w K mg base 3 "changes_fault" ["changes"] (spR K SChf) := dn_mk F_changes_fault g_changes_fault (fun _ _ _ _ _ _ us hl => match us, hl with | [_], _ => rfl) (ok_changes_fault F_changes_fault T D_is_row D_is_change)
  have OI : FnOk P w K mg base CX0 4 (ma K (ga K "Calendar") "__init__") fdI2 ["self", "cycle", "changes"] (spInit K (ga K "Calendar")) := ok_init FI T D_cycle_fault D_changes_fault
  have D_law_calendar : Dn P w K mg base 6 "_law_calendar" ["_law_well_here", "_law_parts_here"] (spW K SLCal (RLCal (ga K "Calendar"))) := dn_mk F__law_calendar g__law_calendar (fun _ _ _ _ _ _ us hl => match us, hl with | [_, _], _ => rfl) (ok_lcal F__law_calendar T M FI OI D_law_one)
  have D_law_works : Dn P w K mg base 1 "_law_works" ["_law_parts_here", "_law_slot"] (spR K SLWorks) := dn_mk F__law_works g__law_works (fun _ _ _ _ _ _ us hl => match us, hl with | [_, _], _ => rfl) (ok_lworks F__law_works T)
  have D_law_others : Dn P w K mg base 3 "_law_others" ["_law_well_here", "_law_parts_here", "_law_far_here"] (spW K SOth ROth) := dn_mk F__law_others g__law_others (fun _ _ _ _ _ _ us hl => match us, hl with | [_, _, _], _ => rfl) (ok_oth F__law_others T D_law_draw D_law_one D_law_parts)
  have D_law_difference : Dn P w K mg base 2 "_law_difference" ["_law_one_here", "_law_other"] (spR K SLDif) := dn_mk F__law_difference g__law_difference (fun _ _ _ _ _ _ us hl => match us, hl with | [_, _], _ => rfl) (ok_ldif F__law_difference T D_law_works g_sorted)
  have D_law_turn : Dn P w K mg base 1 "_law_turn" ["_law_parts_here"] (spR K SLTurn) := dn_mk F__law_turn g__law_turn (fun _ _ _ _ _ _ us hl => match us, hl with | [_], _ => rfl) (ok_lturn F__law_turn T)
  have D_law_turn_right : Dn P w K mg base 2 "_law_turn_right" ["_law_parts_here", "_law_told"] (spR K STRight) := dn_mk F__law_turn_right g__law_turn_right (fun _ _ _ _ _ _ us hl => match us, hl with | [_, _], _ => rfl) (ok_tright F__law_turn_right T D_law_works)
  have D_need_calendar : Dn P w K mg base 1 "need_calendar" ["calendar", "part"] (spR K (SNeedC (ga K "Calendar"))) := dn_mk F_need_calendar g_need_calendar (fun _ _ _ _ _ _ us hl => match us, hl with | [_, _], _ => rfl) (ok_need_calendar F_need_calendar T)
  have D_is_natural : Dn P w K mg base 2 "is_natural" ["value"] (spR K SNat) := dn_mk F_is_natural g_is_natural (fun _ _ _ _ _ _ us hl => match us, hl with | [_], _ => rfl) (ok_is_natural F_is_natural T D_is_whole)
  have D_need_number : Dn P w K mg base 3 "need_number" ["value", "part"] (spR K SNeedN) := dn_mk F_need_number g_need_number (fun _ _ _ _ _ _ us hl => match us, hl with | [_, _], _ => rfl) (ok_need_number F_need_number T D_is_natural)
  have D_by_cycle : Dn P w K mg base 1 "by_cycle" ["cycle", "slot"] (spR K SByC) := dn_mk F_by_cycle g_by_cycle (fun _ _ _ _ _ _ us hl => match us, hl with | [_, _], _ => rfl) (ok_by_cycle F_by_cycle T)
  have D_works_at : Dn P w K mg base 2 "works_at" ["calendar", "slot"] (spR K (SWorks (ga K "Calendar"))) := dn_mk F_works_at g_works_at (fun _ _ _ _ _ _ us hl => match us, hl with | [_, _], _ => rfl) (ok_works_at F_works_at T D_by_cycle)
  have D_is_work : Dn P w K mg base 4 "is_work" ["calendar", "slot"] (spR K (SIsW (ga K "Calendar"))) := dn_mk F_is_work g_is_work (fun _ _ _ _ _ _ us hl => match us, hl with | [_, _], _ => rfl) (ok_is_work F_is_work T D_need_calendar D_need_number D_works_at)
  have D_first_difference : Dn P w K mg base 3 "first_difference" ["calendar", "other"] (spR K (SFD (ga K "Calendar"))) := dn_mk F_first_difference g_first_difference (fun _ _ _ _ _ _ us hl => match us, hl with | [_, _], _ => rfl) (ok_fdif F_first_difference T D_need_calendar D_works_at g_sorted g_lcm)
  have D_gain : Dn P w K mg base 2 "gain" ["cycle", "slot", "works"] (spR K SGain) := dn_mk F_gain g_gain (fun _ _ _ _ _ _ us hl => match us, hl with | [_, _, _], _ => rfl) (ok_gain F_gain T D_by_cycle)
  have D_least_period : Dn P w K mg base 1 "least_period" ["cycle"] (spR K SLeast) := dn_mk F_least_period g_least_period (fun _ _ _ _ _ _ us hl => match us, hl with | [_], _ => rfl) (ok_least F_least_period T g_min)
  have D_turn_of : Dn P w K mg base 3 "turn_of" ["calendar"] (spR K (STurn (ga K "Calendar"))) := dn_mk F_turn_of g_turn_of (fun _ _ _ _ _ _ us hl => match us, hl with | [_], _ => rfl) (ok_turn_of F_turn_of T D_need_calendar D_gain D_least_period g_max)
  have D_moved : Dn P w K mg base 6 "moved" ["calendar", "many"] (spR K (SMoved (ga K "Calendar"))) := dn_mk F_moved g_moved (fun _ _ _ _ _ _ us hl => match us, hl with | [_, _], _ => rfl) (ok_moved F_moved T M FI OI D_need_calendar D_need_number D_by_cycle)
  have OE : FnOk P w K mg base CX0 1 (ma K (ga K "Calendar") "__eq__") fdE ["self", "other"] (spR K (SEq K (ga K "Calendar"))) := ok_eq FE T
  have D_law_right : Dn P w K mg base 7 "_law_right" ["_law_well_here"] (spW K SRight RRight) := dn_mk F__law_right g__law_right (fun _ _ _ _ _ _ us hl => match us, hl with | [_], _ => rfl) (ok_right F__law_right T M FI OI E OE be D_law_draw D_law_far D_law_parts D_law_calendar D_law_works D_law_others D_law_difference D_law_turn D_law_turn_right D_is_work D_first_difference D_turn_of D_moved)
  exact ok_law F_law T D_law_well D_law_right
end Ca
open PySem PySem.W PySem.Calls PyProof.Rows
set_option maxRecDepth 100000 in
set_option maxHeartbeats 0 in
theorem PySem.Challenge.cw_crewlags_k60_whole_calendars_that_never_holds : PySem.Challenge.rw_crewlags_k60_whole_calendars_that_never.Holds := by
  w_on; o_law
  refine Ib.ib_head (r := OpenLaw.row PySem.Challenge.rw_crewlags_k60_whole_calendars_that_never) (q := view (OpenLaw.row PySem.Challenge.rw_crewlags_k60_whole_calendars_that_never).prog [40]) (H := Ca.hk) (ob := Ca.ob) (M := 9000) (loose := Ca.loose) (d := HandSHeadRun.topDef (OpenLaw.row PySem.Challenge.rw_crewlags_k60_whole_calendars_that_never).prog 40) (kwd := []) Ca.ob_eq
    (fun w => Ib.ib_ran (Ca.ranT w)) (fun w os => by kernel_rfl) Ca.run (by kernel_rfl) (by kernel_rfl) (by kernel_rfl) (by rfl) (by first | assumption | decide +kernel) (by decide +kernel) ⟨rfl, rfl, rfl, rfl, rfl, by decide +kernel⟩ ?hw ?hc
  case hw => w_witness2
  case hc =>
    refine L2.walk_ofE (l := PySem.Challenge.rw_crewlags_k60_whole_calendars_that_never) (n := 63) (k := 8) (x := "_law_script") (CX := L2.CX0) rfl (by decide) (by kernel_rfl) ⟨rfl, by decide, by decide⟩ ?F (fun _ _ _ _ z => z)
    intro w mg fa h Y G hmg0
    obtain ⟨K, KX, c⟩ := Y
    have hmg : mg ("law" : PySem.Str) = some (.ref fa) := by
      have e : (HandSHeadRun.topDef (OpenLaw.row PySem.Challenge.rw_crewlags_k60_whole_calendars_that_never).prog 40).name = ("law" : PySem.Str) := by kernel_rfl
      rw [← e]
      exact hmg0
    obtain ⟨fd, hb, hF⟩ := Ca.facts (P := (PySem.Challenge.rw_crewlags_k60_whole_calendars_that_never).prog) (w := w) KX G hmg c
    exact ⟨K, fd, Ca.spLaw K, KX, hb, fun H a ns hl _ hS => ⟨a, ns, rfl, hS, hl, fun _ => rfl⟩, hF⟩

