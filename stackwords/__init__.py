"""A language of words on a stack, with shared arrays and tables and states that are kept and brought back."""
