"""The pool: work cut in slices, on a board that parties share without a lock."""
