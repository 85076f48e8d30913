import Derived.Test.YtkcanelboloihaaRowz
import Derived.Deep.WholeRow
