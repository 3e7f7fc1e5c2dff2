"""A music machine that's paid: musicbox.desk.answers(calls) is the way in."""
