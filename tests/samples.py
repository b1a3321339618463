"""Diagrams that several tests use."""

COUNTER = """block counter(up; count total)
  part old = delay 0
  part sum = add
  old.in <- sum.out
  sum.a <- old.out
  sum.b <- up
  count <- old.out
  total <- sum.out
end"""
