"""Forms: what is asked, and what is left to be answered."""
