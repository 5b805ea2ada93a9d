"""An office's papers, copied, kept and seen."""
