import Derived.Test.YtocpfbcbfgbdoaaRowz
import Derived.Deep.WholeRow
