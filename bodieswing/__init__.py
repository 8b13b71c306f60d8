"""Bodies that move: they fly, spin, hang on springs and stay between walls."""
