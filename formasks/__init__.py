"""Forms: what is asked, what follows from the answers, and how it is decided with little asking."""
