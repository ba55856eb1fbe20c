/- Boxes: see the text that this one hands on. -/
import Derived.Test.YteiglpijjffneaaRM
