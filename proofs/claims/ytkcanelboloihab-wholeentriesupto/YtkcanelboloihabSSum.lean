import Derived.Test.YtkcanelboloihabRowz
import Derived.Deep.WholeRow
