"""Things done one after the other, each behind its holder."""
