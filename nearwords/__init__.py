"""Words that are nearly others: call nearwords.desk.answers."""
