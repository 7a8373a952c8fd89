"""Answerhouse: plain texts, and questions answered by the rows that bear them."""
